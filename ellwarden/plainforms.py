"""Plain forms: tuples (terms, rest), with pairs of a spot and its factor, ascending by spots."""

from ellwarden.checks import is_tuple_of
from ellwarden.ratios import is_ratio, plus, times
from ellwarden.worlds import GROUND, is_spot


def is_plain_form(thing):
    """Whether it is a plain form of any spots other than the ground."""
    if not is_tuple_of(thing, 2):
        return False
    terms, rest = thing
    if not isinstance(terms, tuple) or not all([_is_term(term) for term in terms]):
        return False
    for place in range(1, len(terms)):
        if not terms[place - 1][0] < terms[place][0]:
            return False
    return is_ratio(rest)


def _is_term(thing):
    """Whether it is a pair of a spot and its factor."""
    if not is_tuple_of(thing, 2):
        return False
    spot, factor = thing
    return is_spot(spot) and spot != GROUND and is_ratio(factor) and factor[0] != 0


def plain_value(form, world):
    """The value of a plain form in a world; NoSpot for the first spot that the world lacks."""
    total = form[1]
    for spot, factor in form[0]:
        total = plus(total, times(factor, world[spot]))
    return total


def plain_form(factors, rest):
    """The plain form of a dict of the factors of spots, and of a rest."""
    spots = sorted([spot for spot in factors if factors[spot][0] != 0])
    return (tuple([(spot, factors[spot]) for spot in spots]), rest)


def plain_rest(number):
    """The form that has only a rest."""
    return ((), number)


def plain_spot(spot):
    """The form that is the value of a spot."""
    return (((spot, (1, 1)),), (0, 1))


def plain_sum(first, second):
    """The sum of two plain forms."""
    factors = {}
    for spot, factor in first[0] + second[0]:
        factors[spot] = plus(factors.get(spot, (0, 1)), factor)
    return plain_form(factors, plus(first[1], second[1]))


def plain_scaled(form, number):
    """A plain form times a ratio."""
    factors = {}
    for spot, factor in form[0]:
        factors[spot] = times(factor, number)
    return plain_form(factors, times(form[1], number))
