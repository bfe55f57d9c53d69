"""How charters, procedures and expressions are written as rows of lines."""

from ellwarden.dims import write_product
from ellwarden.kinds import OPERATORS
from ellwarden.ratios import write_ratio

SIGNS = {"plus": "+", "minus": "-", "times": "*", "over": "/"}
BODIES = ("passed", "failed", "open")


def write_expression(expression):
    """The words of an expression, in one string."""
    word = expression[0]
    if word == "amount":
        return f"{write_ratio(expression[1])} {expression[2]}"
    if word == "size":
        return f"size {expression[1]}"
    if word == "offset":
        return f"offset {expression[1]} {expression[2]}"
    if word == "name":
        return expression[1]
    tightness = _tightness(expression)
    left = _part(expression[1], tightness)
    # Of operators that bind alike the one further left binds tighter: not so on the right side.
    right = _part(expression[2], tightness + 1)
    return f"{left} {SIGNS[word]} {right}"


def _part(expression, least):
    """A part of an expression, in parentheses unless it binds at least so tight."""
    words = write_expression(expression)
    return words if _tightness(expression) >= least else f"( {words} )"


def _tightness(expression):
    """How tight an expression holds together; one without operator most."""
    word = expression[0]
    if word not in OPERATORS:
        return 3
    return 2 if word in ("times", "over") else 1


def write_procedure(procedure):
    """The lines of a procedure, from `procedure` to `end`."""
    name, features, roles, body = procedure
    lines = [f"procedure {name}"]
    for feature, base in features:
        lines.append(f"takes {feature} {base}")
    for role, base in roles:
        lines.append(f"uses {role} {base}")
    lines.extend(_body_lines(body))
    lines.append("end")
    return lines


def _body_lines(body):
    lines = []
    for statement in body:
        lines.extend(_statement_lines(statement))
    return lines


def _statement_lines(statement):
    word = statement[0]
    if word == "read":
        return [f"read {statement[1]} by {statement[2]}"]
    if word == "let":
        return [f"let {statement[1]} be {write_expression(statement[2])}"]
    if word == "tell":
        return [f"tell {statement[1]} {write_expression(statement[2])} in {statement[3]}"]
    if word == "judge":
        return [f"judge {statement[1]} {_decision(statement[2:])}"]
    if word == "choose":
        return [f"choose {_decision(statement[1:4])}", *_choice_lines(statement[4:]), "end"]
    if word == "repeat":
        return [f"repeat {statement[1]}", *_body_lines(statement[2]), "end"]
    if word == "call":
        return [_call_line(statement)]
    return [word]


def _decision(expressions):
    """An expression and its limits G and N."""
    what, good, bad = [write_expression(expression) for expression in expressions]
    return f"{what} good {good} bad {bad}"


def _choice_lines(bodies):
    """The bodies of a `choose`, those that are empty left out."""
    lines = []
    for word, body in zip(BODIES, bodies):
        if len(body) > 0:
            lines.append(word)
            lines.extend(_body_lines(body))
    return lines


def _call_line(statement):
    _, name, features, roles = statement
    words = ["call", name]
    if len(features) > 0:
        words.append("takes")
        words.extend(features)
    if len(roles) > 0:
        words.append("uses")
        words.extend(roles)
    return " ".join(words)


def write_charter(charter):
    """The lines of a charter."""
    lines = [f"days {charter.days}"]
    lines.extend([f"base {name}" for name in charter.bases])
    for name, dimension, factor in charter.units:
        lines.append(f"unit {name} {write_product(charter.bases, dimension)} {write_ratio(factor)}")
    for device in charter.devices:
        lines.append(_entry_line("device", device[:11] + device[11]))
    for feature in charter.features:
        lines.append(_entry_line("feature", feature))
    for role in charter.roles:
        lines.append(_entry_line("role", role))
    lines.extend([f"job {name}" for name in charter.jobs])
    for procedure in charter.procedures:
        lines.extend(write_procedure(procedure))
    return lines


def _entry_line(word, items):
    return " ".join([word] + [str(item) for item in items])
