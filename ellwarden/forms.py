"""Forms: sums of spots with factors, and of a rest."""

from ellwarden.checks import is_row, is_tuple_of
from ellwarden.errors import BadForm
from ellwarden.plainforms import plain_form, plain_scaled, plain_sum, plain_value
from ellwarden.ratios import is_ratio, plus
from ellwarden.worlds import GROUND, is_spot


class Form:
    """A sum of spots other than the ground, each times its factor, and of a rest."""

    def __init__(self, terms=(), rest=(0, 1)):
        factors = _factors_of(terms)
        if not is_ratio(rest):
            raise BadForm(-1)
        self.terms, self.rest = plain_form(factors, rest)

    @staticmethod
    def of(spot):
        """The spot once."""
        return Form([(spot, (1, 1))])

    def plain(self):
        """The plain form."""
        return (self.terms, self.rest)

    def __add__(self, other):
        if not isinstance(other, Form):
            return NotImplemented
        return form_of(plain_sum(self.plain(), other.plain()))

    def __sub__(self, other):
        if not isinstance(other, Form):
            return NotImplemented
        return form_of(plain_sum(self.plain(), plain_scaled(other.plain(), (-1, 1))))

    def __mul__(self, other):
        if not is_ratio(other):
            return NotImplemented
        return form_of(plain_scaled(self.plain(), other))

    def __neg__(self):
        return form_of(plain_scaled(self.plain(), (-1, 1)))

    def __eq__(self, other):
        return isinstance(other, Form) and self.terms == other.terms and self.rest == other.rest

    def __call__(self, world):
        """The value in a world."""
        return plain_value(self.plain(), world)


def form_of(plain):
    """The form of a plain form."""
    terms, rest = plain
    return Form(terms, rest)


def _factors_of(terms):
    """The dict of the factors of the spots other than the ground, judged pair by pair."""
    if not is_row(terms):
        raise BadForm(0)
    factors = {}
    for place, pair in enumerate(terms):
        if not is_tuple_of(pair, 2) or not is_spot(pair[0]) or not is_ratio(pair[1]):
            raise BadForm(place)
        spot, factor = pair
        if spot != GROUND:
            factors[spot] = plus(factors.get(spot, (0, 1)), factor)
    return factors
