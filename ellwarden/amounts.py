"""Amounts: numbers in grains, with a dimension."""

from ellwarden.dims import divided, multiplied
from ellwarden.errors import Mixed, Nought
from ellwarden.ratios import compare, minus, over, plus, times


class Amount:
    """A number, a ratio in grains, and a dimension."""

    def __init__(self, number, dimension):
        self.number = number
        self.dimension = dimension

    @staticmethod
    def bare(number, many):
        """The amount without dimension, for so many bases."""
        return Amount(number, (0,) * many)

    def __add__(self, other):
        if not isinstance(other, Amount):
            return NotImplemented
        _ask_for_one(self.dimension, other.dimension)
        return Amount(plus(self.number, other.number), self.dimension)

    def __sub__(self, other):
        if not isinstance(other, Amount):
            return NotImplemented
        _ask_for_one(self.dimension, other.dimension)
        return Amount(minus(self.number, other.number), self.dimension)

    def __mul__(self, other):
        if not isinstance(other, Amount):
            return NotImplemented
        dimension = multiplied(self.dimension, other.dimension)
        return Amount(times(self.number, other.number), dimension)

    def __floordiv__(self, other):
        if not isinstance(other, Amount):
            return NotImplemented
        if other.number[0] == 0:
            raise Nought(self.number)
        dimension = divided(self.dimension, other.dimension)
        return Amount(over(self.number, other.number), dimension)

    def __neg__(self):
        return Amount(minus((0, 1), self.number), self.dimension)

    def __eq__(self, other):
        return isinstance(other, Amount) and self.number == other.number and self.dimension == other.dimension

    def compared(self, other):
        """-1, 0 or 1 as the amount is below, equal to, above the other one."""
        _ask_for_one(self.dimension, other.dimension)
        return compare(self.number, other.number)


def _ask_for_one(left, right):
    """Mixed for two dimensions that differ."""
    if left != right:
        raise Mixed(left, right)
