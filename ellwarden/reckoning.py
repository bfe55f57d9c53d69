"""What expressions of judged procedures come to, on a day and with what is handed on.

Values are tuples here: ("constant", number, dimension), ("sum", form, dimension),
("product", x, y, scale, dimension), ("quotient", x, y, scale, dimension), and
("nobody", role) for what has an offset of a role for which nobody stands.
"""

from ellwarden.kinds import OPERATORS, joined_dimension, joined_kind, joined_number
from ellwarden.marks import stretch_at
from ellwarden.plainforms import plain_rest, plain_scaled, plain_spot, plain_sum
from ellwarden.ratios import over, times


class Reckoner:
    """sizes has for each feature of a procedure (name, dimension) of what is handed on for it;
    offsets has for each role (name, cuts, dimension), with the name "nobody" for nobody."""

    def __init__(self, units, day, sizes, offsets, names):
        self._units = units
        self._day = day
        self._sizes = sizes
        self._offsets = offsets
        self._names = {}
        for name, expression in names:
            self._names[name] = expression
        self._values = {}
        # In the order of their lets, so that a long chain of names is not gone through at once.
        for name in list(self._names):
            self._named(name)

    def value_of(self, expression):
        """The value of an expression."""
        word = expression[0]
        if word in OPERATORS:
            left = self.value_of(expression[1])
            right = self.value_of(expression[2])
            return _joined(word, left, right)
        if word == "amount":
            amount = self._units.amount(expression[1], expression[2])
            return ("constant", amount.number, amount.dimension)
        if word == "size":
            return self._size(expression[1])
        if word == "offset":
            return self._offset(expression[1], expression[2])
        return self._named(expression[1])

    def _size(self, feature):
        name, dimension = self._sizes[feature]
        return ("sum", plain_spot((name, 0, self._day)), dimension)

    def _offset(self, role, mark):
        name, cuts, dimension = self._offsets[role]
        if name == "nobody":
            return ("nobody", role)
        return ("sum", plain_spot((name, stretch_at(cuts, mark), self._day)), dimension)

    def _named(self, name):
        """The value of a name; it is kept, as names of names would be reckoned too often."""
        if name not in self._values:
            self._values[name] = self.value_of(self._names[name])
        return self._values[name]


def _joined(word, left, right):
    """The value that comes of two values."""
    if left[0] == "nobody":
        return left
    if right[0] == "nobody":
        return right
    kind = joined_kind(word, left[0], right[0])
    dimension = joined_dimension(word, left[-1], right[-1])
    if kind == "constant":
        return (kind, joined_number(word, left[1], right[1]), dimension)
    if kind == "sum":
        return (kind, _joined_form(word, left, right), dimension)
    x, y, scale = _joined_forms(word, left, right)
    return (kind, x, y, scale, dimension)


def _joined_form(word, left, right):
    """The form of a sum that comes of two values."""
    if word == "plus":
        return plain_sum(_form_of(left), _form_of(right))
    if word == "minus":
        return plain_sum(_form_of(left), plain_scaled(_form_of(right), (-1, 1)))
    if word == "over":
        return plain_scaled(left[1], over((1, 1), right[1]))
    if left[0] == "constant":
        return plain_scaled(right[1], left[1])
    return plain_scaled(left[1], right[1])


def _joined_forms(word, left, right):
    """The forms and the scale of a product or quotient that comes of two values."""
    if left[0] in ("product", "quotient"):
        return (left[1], left[2], joined_number(word, left[3], right[1]))
    if right[0] in ("product", "quotient"):
        return (right[1], right[2], times(left[1], right[3]))
    return (_form_of(left), _form_of(right), (1, 1))


def _form_of(value):
    """The form of a constant or a sum."""
    return plain_rest(value[1]) if value[0] == "constant" else value[1]
