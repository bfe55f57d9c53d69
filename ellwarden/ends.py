"""The ends of forms in webs, with worlds that reach them and papers that prove them."""

from ellwarden.checks import is_row, is_tuple_of
from ellwarden.forms import Form
from ellwarden.frames import Frame
from ellwarden.plainforms import plain_value
from ellwarden.ratios import common_below, is_ratio, minus, plus, times, times_whole
from ellwarden.webs import is_link


class End:
    """A least or greatest value, a world that reaches it, and a paper for it or None."""

    def __init__(self, value, reached, paper):
        self.value = value
        self.reached = reached
        self.paper = paper


def greatest(web, form):
    """The greatest value of a form in all worlds of a web."""
    frame = Frame(web, [spot for spot, _ in form.terms])
    factors = [factor for _, factor in form.terms]
    many = common_below(factors)
    values, shares = frame.best([times_whole(factor, many) for factor in factors])
    reached = frame.blend([values], [(1, 1)])
    return End(plain_value(form.plain(), reached), reached, frame.paper_of(shares, many))


def least(web, form):
    """The least value of a form in all worlds of a web."""
    end = greatest(web, -form)
    return End(minus((0, 1), end.value), end.reached, end.paper)


def shown(web, form, paper):
    """The greatest value of a form for which a row of pairs is a paper, or None."""
    if not is_row(paper) or not all([_is_pair(web, pair) for pair in paper]):
        return None
    total = form.rest
    terms = []
    for multiplier, (a, b, bound, _) in paper:
        total = plus(total, times(multiplier, (bound, 1)))
        terms.append((b, multiplier))
        terms.append((a, minus((0, 1), multiplier)))
    return total if Form(terms, form.rest) == form else None


def _is_pair(web, thing):
    """Whether it is a pair of a multiplier above 0 and a link of the web."""
    if not is_tuple_of(thing, 2):
        return False
    multiplier, link = thing
    if not is_ratio(multiplier) or multiplier[0] <= 0:
        return False
    # Only what is a link is looked for, as Python would also find one with True for 1.
    return is_link(link, web) and link in web.links
