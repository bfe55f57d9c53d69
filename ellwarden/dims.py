"""Dimensions, exponents for the bases of a house, and product texts."""

from ellwarden.checks import is_tuple_of, is_within
from ellwarden.errors import TooHigh, Unknown

HIGHEST = 9
DIGITS = "123456789"
LONGEST = 200


def is_dimension(thing, many):
    """Whether it is a dimension for so many bases."""
    return is_tuple_of(thing, many) and all([_is_exponent(exponent) for exponent in thing])


def _is_exponent(thing):
    return is_within(thing, -HIGHEST, HIGHEST)


def multiplied(a, b):
    """The product of two dimensions."""
    return _checked(tuple([left + right for left, right in zip(a, b)]))


def divided(a, b):
    """The quotient of two dimensions."""
    return _checked(tuple([left - right for left, right in zip(a, b)]))


def _checked(dimension):
    if not is_dimension(dimension, len(dimension)):
        raise TooHigh(dimension)
    return dimension


def base_dimension(bases, name):
    """The exponent 1 for the base of this name, 0 for the others."""
    if name not in bases:
        raise Unknown(name)
    return tuple([1 if base == name else 0 for base in bases])


def read_product(text, names):
    """The exponents of the names in a product text, in the order of names; None if the text
    is no product text of these names."""
    if not isinstance(text, str) or len(text) > LONGEST:
        return None
    sums = {name: 0 for name in names}
    for place, (sign, term) in enumerate(_signed_terms(text)):
        if place == 0 and term == "1":
            continue
        name, exponent = _read_term(term)
        if exponent == 0 or name not in sums:
            return None
        sums[name] = sums[name] + sign * exponent
    exponents = tuple([sums[name] for name in names])
    return exponents if is_dimension(exponents, len(exponents)) else None


def _signed_terms(text):
    """The pairs of 1 or -1, as the sign in front of a term is no `/` or one, and the term."""
    pairs = []
    for part in text.split("*"):
        for place, term in enumerate(part.split("/")):
            pairs.append((-1 if place > 0 else 1, term))
    return pairs


def _read_term(term):
    """The pair of the name and the exponent of a term; the exponent 0 for what is no term."""
    name, sign, digits = term.partition("^")
    if sign == "":
        return (name, 1)
    digit = digits.removeprefix("-")
    if len(digit) != 1 or digit not in DIGITS:
        return (name, 0)
    return (name, int(digits))


def write_product(names, exponents):
    """The one form of a product text, in the order of names."""
    above = []
    below = []
    for name, exponent in zip(names, exponents):
        if exponent > 0:
            above.append(_written_term(name, exponent))
        if exponent < 0:
            below.append("/" + _written_term(name, -exponent))
    head = "*".join(above) if len(above) > 0 else "1"
    return head + "".join(below)


def _written_term(name, exponent):
    return name if exponent == 1 else f"{name}^{exponent}"
