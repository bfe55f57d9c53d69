"""Choices among some things: all ascending tuples of them, by length, then as tuples."""


def choices(things):
    """All ascending tuples of ascending things, by length, then as tuples."""
    found = []
    level = [()]
    while len(level) > 0:
        found.extend(level)
        level = [row + (thing,) for row in level for thing in things if row == () or row[-1] < thing]
    return found


def meets(row, other):
    """Whether two rows have something in common."""
    return any([thing in other for thing in row])


def contains(row, other):
    """Whether a row has all things of another one."""
    return all([thing in row for thing in other])
