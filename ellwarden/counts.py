"""The greatest numbers of readings and steps that procedures come to."""


def counts_of(procedures):
    """The dict of the pairs (readings, steps) by the names of procedures without a ring."""
    bodies = {}
    for name, _, _, body in procedures:
        bodies[name] = body
    found = {}
    for name in bodies:
        _count(name, bodies, found)
    return found


def _count(name, bodies, found):
    """The pair of a procedure, which is kept: one that is called often is counted once."""
    if name not in found:
        found[name] = _body_counts(bodies[name], bodies, found)
    return found[name]


def _body_counts(body, bodies, found):
    readings = 0
    steps = 0
    for statement in body:
        more, further = _statement_counts(statement, bodies, found)
        readings = readings + more
        steps = steps + 1 + further
    return (readings, steps)


def _statement_counts(statement, bodies, found):
    """The readings of a statement, and its steps but for its own one."""
    word = statement[0]
    if word == "read":
        return (1, 0)
    if word == "choose":
        pairs = [_body_counts(body, bodies, found) for body in statement[4:]]
        return (max([pair[0] for pair in pairs]), max([pair[1] for pair in pairs]))
    if word == "repeat":
        readings, steps = _body_counts(statement[2], bodies, found)
        return (statement[1] * readings, statement[1] * steps)
    if word == "call":
        return _count(statement[1], bodies, found)
    return (0, 0)
