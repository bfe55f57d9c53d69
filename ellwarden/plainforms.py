"""Plain forms: tuples (terms, rest), with pairs of a spot and its factor, ascending by spots."""

from ellwarden.ratios import plus, times


def plain_form(factors, rest):
    """The plain form of a dict of the factors of spots, and of a rest."""
    spots = sorted([spot for spot in factors if factors[spot][0] != 0])
    return (tuple([(spot, factors[spot]) for spot in spots]), rest)


def plain_rest(number):
    """The form that has only a rest."""
    return ((), number)


def plain_spot(spot):
    """The form that is the value of a spot."""
    return (((spot, (1, 1)),), (0, 1))


def plain_sum(first, second):
    """The sum of two plain forms."""
    factors = {}
    for spot, factor in first[0] + second[0]:
        factors[spot] = plus(factors.get(spot, (0, 1)), factor)
    return plain_form(factors, plus(first[1], second[1]))


def plain_scaled(form, number):
    """A plain form times a ratio."""
    factors = {}
    for spot, factor in form[0]:
        factors[spot] = times(factor, number)
    return plain_form(factors, times(form[1], number))
