"""The kinds of expressions, and what kind, dimension and number come of two of them."""

from ellwarden.dims import divided, multiplied
from ellwarden.ratios import minus, over, plus, times

OPERATORS = ("plus", "minus", "times", "over")
ADDED = {
    ("constant", "constant"): "constant",
    ("constant", "sum"): "sum",
    ("sum", "constant"): "sum",
    ("sum", "sum"): "sum",
}
TIMES = {
    ("constant", "constant"): "constant",
    ("constant", "sum"): "sum",
    ("sum", "constant"): "sum",
    ("sum", "sum"): "product",
    ("constant", "product"): "product",
    ("product", "constant"): "product",
    ("constant", "quotient"): "quotient",
    ("quotient", "constant"): "quotient",
}
OVER = {
    ("constant", "constant"): "constant",
    ("sum", "constant"): "sum",
    ("constant", "sum"): "quotient",
    ("sum", "sum"): "quotient",
    ("product", "constant"): "product",
    ("quotient", "constant"): "quotient",
}


def joined_kind(word, left, right):
    """The kind that comes of two kinds, or None if they are not let."""
    if word == "times":
        return TIMES.get((left, right), None)
    if word == "over":
        return OVER.get((left, right), None)
    return ADDED.get((left, right), None)


def joined_dimension(word, left, right):
    """The dimension that comes of two dimensions, those of a sum being equal."""
    if word == "times":
        return multiplied(left, right)
    if word == "over":
        return divided(left, right)
    return left


def joined_number(word, left, right):
    """The number that comes of two numbers."""
    if word == "plus":
        return plus(left, right)
    if word == "minus":
        return minus(left, right)
    if word == "times":
        return times(left, right)
    return over(left, right)
