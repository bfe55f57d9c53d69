"""The faults of procedures, in their order: BadStep, then Ring, then TooLong."""

from ellwarden.counts import counts_of
from ellwarden.dims import base_dimension
from ellwarden.errors import BadStep, BadUnit, Ring, TooHigh, TooLong
from ellwarden.expressions import steps_of
from ellwarden.kinds import OPERATORS, joined_dimension, joined_kind, joined_number
from ellwarden.shapes import bodies_of

READINGS = 6
STEPS = 120


class Judge:
    """Judges one procedure, step by step. An expression is judged to be a triple of its kind,
    its dimension, and its number, if it is a constant, or None."""

    def __init__(self, units, procedures, procedure):
        self._units = units
        self._procedures = procedures
        self._procedure = procedure
        self._taken = {}
        self._sizes = {}
        self._offsets = {}
        self._step = -1

    def judge(self):
        """BadStep for the first fault of the procedure."""
        _, features, roles, body = self._procedure
        for name, base in features:
            self._take(name)
            self._sizes[name] = self._base(base)
        for name, base in roles:
            self._take(name)
            self._offsets[name] = self._base(base)
        self._judge_body(body, {}, False)

    def _refuse(self, kind, about):
        raise BadStep(self._procedure[0], self._step, kind, about)

    def _base(self, base):
        return base_dimension(self._units.bases, base)

    def _take(self, name):
        if name in self._taken:
            self._refuse("twice", name)
        self._taken[name] = True

    def _asked(self, table, name):
        """What a table of names has for a name."""
        if name not in table:
            self._refuse("unknown", name)
        return table[name]

    def _ask_for_one(self, left, right):
        if left != right:
            self._refuse("mixed", (left, right))

    def _judge_body(self, body, around, repeated):
        # A copy, as what is let in this body ends with it.
        names = dict(around)
        for statement in body:
            self._step += 1
            self._judge_statement(statement, names, repeated)
            inside = repeated or statement[0] == "repeat"
            for inner in bodies_of(statement):
                self._judge_body(inner, names, inside)

    def _judge_statement(self, statement, names, repeated):
        word = statement[0]
        if word == "read":
            left = self._asked(self._sizes, statement[1])
            self._ask_for_one(left, self._asked(self._offsets, statement[2]))
        if word == "let":
            self._take(statement[1])
            names[statement[1]] = self._judge_expression(statement[2], names)
        if word == "tell":
            _, dimension, _ = self._judge_expression(statement[2], names)
            self._ask_for_one(dimension, self._amount((1, 1), statement[3]).dimension)
        if word == "judge":
            self._judge_limits(word, statement[2:], names)
        if word == "choose":
            self._judge_limits(word, statement[1:4], names)
        if word == "call":
            self._judge_call(statement)
        if word == "leave" and not repeated:
            self._refuse("stray", word)

    def _judge_limits(self, word, expressions, names):
        """A decision: an expression and its limits G and N."""
        judged = [self._judge_expression(expression, names) for expression in expressions]
        what, good, bad = judged
        self._ask_for_one(what[1], good[1])
        self._ask_for_one(what[1], bad[1])
        if good[0] != "constant" or bad[0] != "constant":
            self._refuse("tangled", word)
        if good[2] == bad[2]:
            self._refuse("nought", word)

    def _judge_call(self, statement):
        _, name, features, roles = statement
        _, sizes, offsets, _ = self._asked(self._procedures, name)
        handed = [self._asked(self._sizes, feature) for feature in features]
        handed.extend([self._asked(self._offsets, role) for role in roles])
        if len(features) != len(sizes) or len(roles) != len(offsets):
            self._refuse("parameters", name)
        for dimension, (_, base) in zip(handed, sizes + offsets):
            self._ask_for_one(dimension, self._base(base))

    def _judge_expression(self, expression, names):
        word = expression[0]
        if word in OPERATORS:
            left = self._judge_expression(expression[1], names)
            right = self._judge_expression(expression[2], names)
            return self._joined(word, left, right)
        if word == "amount":
            amount = self._amount(expression[1], expression[2])
            return ("constant", amount.dimension, amount.number)
        if word == "size":
            return ("sum", self._asked(self._sizes, expression[1]), None)
        if word == "offset":
            return ("sum", self._asked(self._offsets, expression[1]), None)
        return self._asked(names, expression[1])

    def _joined(self, word, left, right):
        """What comes of two expressions that were judged."""
        if word in ("plus", "minus"):
            self._ask_for_one(left[1], right[1])
        dimension = self._dimension(word, left[1], right[1])
        kind = joined_kind(word, left[0], right[0])
        if kind is None:
            self._refuse("tangled", word)
        if word == "over" and right[0] == "constant" and right[2][0] == 0:
            self._refuse("nought", word)
        number = joined_number(word, left[2], right[2]) if kind == "constant" else None
        return (kind, dimension, number)

    def _dimension(self, word, left, right):
        try:
            return joined_dimension(word, left, right)
        except TooHigh as high:
            raise BadStep(self._procedure[0], self._step, "high", high.dimension)

    def _amount(self, number, text):
        try:
            return self._units.amount(number, text)
        except BadUnit:
            raise BadStep(self._procedure[0], self._step, "unit", text)


def judge_procedures(units, procedures):
    """BadStep for the first fault, then Ring, then TooLong for the first procedure."""
    named = {}
    for procedure in procedures:
        named[procedure[0]] = procedure
    for procedure in procedures:
        Judge(units, named, procedure).judge()
    calls = {}
    for name, _, _, body in procedures:
        calls[name] = [statement[1] for statement in steps_of(body) if statement[0] == "call"]
    for name in calls:
        if _is_called_by(name, calls):
            raise Ring(name)
    counts = counts_of(procedures)
    for name in calls:
        readings, steps = counts[name]
        if readings > READINGS or steps > STEPS:
            raise TooLong(name)


def _is_called_by(name, calls):
    """Whether a procedure calls itself, at once or by others."""
    queue = list(calls[name])
    seen = {}
    while len(queue) > 0:
        other = queue.pop()
        if other == name:
            return True
        if other not in seen:
            seen[other] = True
            queue.extend(calls[other])
    return False
