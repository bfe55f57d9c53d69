"""Units: names with a dimension and a factor in grains, and unit texts."""

from ellwarden.amounts import Amount
from ellwarden.checks import is_row, is_tuple_of
from ellwarden.dims import base_dimension, is_dimension, read_product, write_product
from ellwarden.errors import BadTable, BadUnit, Mixed, TooMany, Twice, Unknown
from ellwarden.names import is_name
from ellwarden.ratios import is_ratio, over, power, ratio, times

# One more than the greatest number with 12 digits.
TOO_LONG = 10 ** 12
BASES = 4


def is_factor(thing):
    """Whether it is a ratio above 0 with at most 12 digits above and below."""
    return is_ratio(thing) and 0 < thing[0] < TOO_LONG and thing[1] < TOO_LONG


def is_unit(thing, many):
    """Whether it is a tuple (name, dimension, factor), for so many bases."""
    if not is_tuple_of(thing, 3):
        return False
    name, dimension, factor = thing
    return is_name(name) and is_dimension(dimension, many) and is_factor(factor)


class Units:
    """The units of a house: the grains of its bases, and those of its table."""

    MOST = 12

    def __init__(self, bases, table=()):
        if not _are_bases(bases) or not is_row(table):
            raise BadTable(-1)
        self.bases = tuple(bases)
        self.table = tuple(table)
        for place, entry in enumerate(self.table):
            if not is_unit(entry, len(self.bases)):
                raise BadTable(place)
        if len(self.table) > Units.MOST:
            raise TooMany("units")
        self._units = {}
        for name in self.bases:
            self._take(name, base_dimension(self.bases, name), (1, 1))
        for name, dimension, factor in self.table:
            self._take(name, dimension, factor)

    def __contains__(self, x):
        return isinstance(x, str) and x in self._units

    def __len__(self):
        return len(self._units)

    def __iter__(self):
        return iter(self._units)

    def __eq__(self, other):
        return isinstance(other, Units) and self.bases == other.bases and self.table == other.table

    def dimension_of(self, text):
        """The dimension of a unit text."""
        dimension, _ = self._unit(text)
        return dimension

    def factor_of(self, text):
        """How many grains one unit of a unit text is."""
        _, factor = self._unit(text)
        return factor

    def one_form(self, text):
        """The one form of a unit text."""
        self._unit(text)
        names = sorted(list(self._units))
        return write_product(names, read_product(text, names))

    def amount(self, number, text):
        """The amount of so many units."""
        dimension, factor = self._unit(text)
        return Amount(times(number, factor), dimension)

    def number_in(self, amount, text):
        """The number of an amount in a unit."""
        dimension, factor = self._unit(text)
        if amount.dimension != dimension:
            raise Mixed(amount.dimension, dimension)
        return over(amount.number, factor)

    def finer(self, base, many):
        """The units with grains of the base that are so many times finer."""
        if base not in self.bases:
            raise Unknown(base)
        # A factor that has become too long is refused where it stands in the table.
        return Units(self.bases, finer_table(self.table, self.bases.index(base), many))

    def _take(self, name, dimension, factor):
        if name in self._units:
            raise Twice(name)
        self._units[name] = (dimension, factor)

    def _unit(self, text):
        """The pair of the dimension and the factor of a unit text."""
        names = list(self._units)
        exponents = read_product(text, names)
        if exponents is None:
            raise BadUnit(text)
        whole = [0] * len(self.bases)
        factor = (1, 1)
        for name, exponent in zip(names, exponents):
            dimension, grains = self._units[name]
            whole = [total + exponent * one for total, one in zip(whole, dimension)]
            factor = times(factor, power(grains, exponent))
        if not is_dimension(tuple(whole), len(whole)):
            raise BadUnit(text)
        return (tuple(whole), factor)


def finer_table(table, at, many):
    """A table of units with grains of the base at a place that are so many times finer."""
    return [(name, dimension, times(factor, power(ratio(many), dimension[at]))) for name, dimension, factor in table]


def _are_bases(thing):
    """Whether it is a row of 1 to 4 names; whether they differ is asked later."""
    return is_row(thing) and 1 <= len(thing) <= BASES and all([is_name(name) for name in thing])
