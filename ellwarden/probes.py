"""Probes: whether they settle questions, pairs of worlds and papers that show it, the fewest."""

from ellwarden.checks import is_integer, is_row, is_tuple_of, is_within
from ellwarden.choices import choices, meets
from ellwarden.contests import Contest
from ellwarden.errors import TooMany
from ellwarden.ratios import compare, is_ratio, minus, plus, times
from ellwarden.webs import is_link
from ellwarden.worlds import GROUND

QUESTIONS = 4
PROBES = 6


def settles(web, questions, probes):
    """Whether the verdicts on all questions are no longer open behind all results of the probes."""
    contest = _contest(web, questions, probes)
    return _open_pair(contest, questions, tuple(range(len(probes)))) is None


def pair(web, question, probes):
    """A good and a bad world that agree on the probes, or None."""
    worlds, _ = _contest(web, [question], probes).decide(question, tuple(range(len(probes))))
    return worlds


def paper(web, question, probes):
    """A paper that there are no such worlds, or None."""
    _, found = _contest(web, [question], probes).decide(question, tuple(range(len(probes))))
    return found


def fewest(web, questions, probes):
    """The numbers of the fewest probes that settle the questions, or None."""
    contest = _contest(web, questions, probes)
    # Rows of probes that tell the worlds of a pair apart: one of each row is needed.
    apart = []
    for numbers in choices(list(range(len(probes)))):
        if all([meets(numbers, row) for row in apart]):
            worlds = _open_pair(contest, questions, numbers)
            if worlds is None:
                return numbers
            apart.append([number for number, probe in enumerate(probes) if not _agree(worlds, probe)])
    return None


def _contest(web, questions, probes):
    """All that is asked; TooMany, NoSpot, Clash."""
    if len(questions) > QUESTIONS:
        raise TooMany("question")
    if len(probes) > PROBES:
        raise TooMany("probe")
    return Contest(web, questions, probes)


def _open_pair(contest, questions, numbers):
    """A pair of worlds for the first question that the probes with these numbers leave open."""
    for question in questions:
        worlds, _ = contest.decide(question, numbers)
        if worlds is not None:
            return worlds
    return None


def _agree(worlds, probe):
    """Whether two worlds agree on a probe."""
    a, b, slack = probe
    first, second = worlds
    gap = minus(second.gap(a, b), first.gap(a, b))
    return compare(gap, (2 * slack, 1)) <= 0 and compare(gap, (-2 * slack, 1)) >= 0


def judge_paper(web, question, probes, paper):
    """Whether a row of pairs is a paper that no two worlds, of which one is good for the question
    and one is bad, agree on the probes."""
    if len(probes) > PROBES:
        raise TooMany("probe")
    if not is_row(paper):
        return False
    # What stands on the left side by the spots of both worlds, and by how much the rest of it is
    # above the right side.
    factors = {}
    above = (0, 1)
    for thing in paper:
        told = _inequality(web, question, probes, thing[1]) if _is_multiple(thing) else None
        if told is None:
            return False
        terms, more = told
        above = plus(above, times(thing[0], more))
        for world, spot, factor in terms:
            factors[world, spot] = plus(factors.get((world, spot), (0, 1)), times(thing[0], factor))
    if above[0] <= 0:
        return False
    return all([factors[place][0] == 0 for place in factors if place[1] != GROUND])


def _is_multiple(thing):
    """Whether it is a pair of a multiplier above 0 and something else."""
    return is_tuple_of(thing, 2) and is_ratio(thing[0]) and thing[0][0] > 0


def _inequality(web, question, probes, item):
    """What an item says: triples (world, spot, factor) of its left side, and by how much the rest
    of that is above the right side; None if it is no item."""
    if is_tuple_of(item, 2) and item[0] in ("good", "bad"):
        # Only what is a link is looked for, as Python would also find one with True for 1.
        return _link_told(item) if is_link(item[1], web) and item[1] in web.links else None
    if is_tuple_of(item, 2) and item[0] == "limit" and item[1] in ("good", "bad"):
        return _limit_told(item[1], question)
    if is_tuple_of(item, 3) and item[0] == "probe" and is_within(item[1], 0, len(probes) - 1):
        return _probe_told(item[2], probes[item[1]]) if is_integer(item[2]) and item[2] in (1, -1) else None
    return None


def _link_told(item):
    world, (a, b, bound, _) = item
    return ([(world, b, (1, 1)), (world, a, (-1, 1))], (-bound, 1))


def _limit_told(world, question):
    form, G, N = question
    limit = G if world == "good" else N
    sign = (compare(N, G), 1) if world == "good" else (compare(G, N), 1)
    return ([(world, spot, times(sign, factor)) for spot, factor in form[0]], times(sign, minus(form[1], limit)))


def _probe_told(sign, probe):
    a, b, slack = probe
    terms = [("bad", b, sign), ("bad", a, -sign), ("good", b, -sign), ("good", a, sign)]
    return ([(world, spot, (factor, 1)) for world, spot, factor in terms], (-2 * slack, 1))
