"""Quantities and claims: their form, their value in a world, and whether a world denies them."""

from ellwarden.checks import is_tuple_of
from ellwarden.dims import is_dimension
from ellwarden.plainforms import is_plain_form, plain_value
from ellwarden.ratios import compare, is_ratio, over, times

BASES = 4


def is_quantity(thing):
    """Whether it has the form of a quantity, with any spots other than the ground."""
    if not isinstance(thing, tuple) or len(thing) == 0 or not _is_some_dimension(thing[-1]):
        return False
    if thing[0] == "sum":
        return len(thing) == 3 and is_plain_form(thing[1])
    if thing[0] not in ("product", "quotient") or len(thing) != 5:
        return False
    return is_plain_form(thing[1]) and is_plain_form(thing[2]) and is_ratio(thing[3])


def _is_some_dimension(thing):
    """Whether it is a dimension for some number of bases that a house can have."""
    return any([is_dimension(thing, many) for many in range(1, BASES + 1)])


def is_claim(thing):
    """Whether it has the form of a claim, with any spots other than the ground."""
    if not is_tuple_of(thing, 4):
        return False
    word, quantity, first, second = thing
    if not is_quantity(quantity) or not is_ratio(first) or not is_ratio(second):
        return False
    if word == "within":
        return compare(first, second) <= 0
    return word in ("passed", "failed") and first != second


def forms_of(quantity):
    """The plain forms of a quantity: one of a sum, two of all others."""
    return quantity[1:2] if quantity[0] == "sum" else quantity[1:3]


def value_in(world, quantity):
    """The value of a quantity in a world; None for a quotient whose divisor is 0."""
    found = [plain_value(form, world) for form in forms_of(quantity)]
    if quantity[0] == "sum":
        return found[0]
    x, y = found
    if quantity[0] == "product":
        return times(quantity[3], times(x, y))
    if y[0] == 0:
        return None
    return times(quantity[3], over(x, y))


def is_good(value, G, N):
    """Whether a value is G, or G lies between it and N."""
    return compare(value, G) in (0, compare(G, N))


def is_bad(value, G, N):
    """Whether a value is N, or N lies between it and G."""
    return is_good(value, N, G)


def denies(world, claim):
    """Whether a world denies a claim."""
    word, quantity, first, second = claim
    value = value_in(world, quantity)
    if value is None:
        return True
    if word == "within":
        return compare(value, first) < 0 or compare(value, second) > 0
    if word == "passed":
        return is_bad(value, first, second)
    return is_good(value, first, second)
