"""The form of procedures, statements and expressions; what their names mean is no matter here."""

from ellwarden.checks import is_tuple_of, is_within
from ellwarden.kinds import OPERATORS
from ellwarden.names import is_name
from ellwarden.ratios import is_ratio

PARAMETERS = 4
STATEMENTS = 30
DEPTH = 4
EXPRESSIONS = 15
TURNS = 4
MARK = 1000
# The number of items of each statement, its word included.
LENGTHS = {
    "read": 3,
    "let": 3,
    "tell": 4,
    "judge": 5,
    "choose": 7,
    "repeat": 3,
    "leave": 1,
    "call": 4,
    "stop": 1,
}


def is_procedure(thing, bases):
    """Whether it is a tuple (name, features, roles, body) as told, with these bases."""
    if not is_tuple_of(thing, 4):
        return False
    name, features, roles, body = thing
    if not is_name(name) or not _are_parameters(features, bases) or not _are_parameters(roles, bases):
        return False
    many = statements_in(body, 1)
    return many is not None and many <= STATEMENTS


def _are_parameters(thing, bases):
    if not isinstance(thing, tuple) or len(thing) > PARAMETERS:
        return False
    return all([is_tuple_of(pair, 2) and is_name(pair[0]) and pair[1] in bases for pair in thing])


def statements_in(body, depth):
    """The number of statements in a body whose own ones have this depth, or None if it has
    not the form of a body."""
    if not isinstance(body, tuple) or (depth > DEPTH and len(body) > 0):
        return None
    total = len(body)
    for statement in body:
        if not is_statement(statement):
            return None
        for inner in bodies_of(statement):
            many = statements_in(inner, depth + 1)
            if many is None:
                return None
            total = total + many
    return total


def bodies_of(statement):
    """The tuple of the bodies of a statement, in order."""
    if statement[0] == "choose":
        return statement[4:]
    if statement[0] == "repeat":
        return statement[2:]
    return ()


def is_statement(thing):
    """Whether it has the form of a statement, its bodies left aside."""
    if not isinstance(thing, tuple) or len(thing) == 0 or not isinstance(thing[0], str):
        return False
    word = thing[0]
    if len(thing) != LENGTHS.get(word, 0):
        return False
    if word == "read":
        return is_name(thing[1]) and is_name(thing[2])
    if word == "let":
        return is_name(thing[1]) and is_expression(thing[2])
    if word == "tell":
        return is_name(thing[1]) and is_expression(thing[2]) and isinstance(thing[3], str)
    if word == "judge":
        return is_name(thing[1]) and _are_expressions(thing[2:])
    if word == "choose":
        return _are_expressions(thing[1:4])
    if word == "repeat":
        return is_within(thing[1], 1, TURNS)
    if word == "call":
        return is_name(thing[1]) and _are_names(thing[2]) and _are_names(thing[3])
    return True


def _are_names(thing):
    return isinstance(thing, tuple) and all([is_name(name) for name in thing])


def _are_expressions(things):
    return all([is_expression(thing) for thing in things])


def is_expression(thing):
    """Whether it has the form of an expression, with at most 15 expressions."""
    return expressions_in(thing, EXPRESSIONS) > 0


def expressions_in(thing, room):
    """The number of expressions in an expression, itself included; 0 if it has not the form
    of one, or more than there is room for."""
    if room < 1 or not isinstance(thing, tuple) or len(thing) == 0:
        return 0
    if thing[0] not in OPERATORS:
        return 1 if _is_leaf(thing) else 0
    if len(thing) != 3:
        return 0
    left = expressions_in(thing[1], room - 1)
    if left == 0:
        return 0
    right = expressions_in(thing[2], room - 1 - left)
    return 0 if right == 0 else 1 + left + right


def _is_leaf(thing):
    """Whether it has the form of an expression without expressions in it."""
    word = thing[0]
    if word == "amount" and len(thing) == 3:
        return is_ratio(thing[1]) and isinstance(thing[2], str)
    if word == "offset" and len(thing) == 3:
        return is_name(thing[1]) and is_within(thing[2], -MARK, MARK)
    if word in ("size", "name") and len(thing) == 2:
        return is_name(thing[1])
    return False
