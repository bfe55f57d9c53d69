"""Tables of the bounds between places, on plain integers: a row for each place, with the bounds
from it to all places. A table is closed if the bound from each place to itself is 0, and no bound
is above the sum of those by way of another place."""


def is_closed(table):
    """Whether no bound of a table is above the sum of those by way of another place."""
    for row in table:
        for bound, further in zip(row, table):
            if any([far > bound + near for far, near in zip(row, further)]):
                return False
    return True


def lowered(table, start, goal, bound):
    """The closed table that comes of a closed one if this bound from start to goal is put in,
    with which some values are left."""
    further = [bound + near for near in table[goal]]
    return [_by_way(row, row[start], further) for row in table]


def joined_tables(first, second, places):
    """The closed table that comes of two closed ones together; None if no values keep both. For
    each place of the second one places tells which it is in the first one, or behind that;
    place 0 is the same in both."""
    table = _side_by_side(first, second, places)
    for middle in _joints(first, second, places):
        further = table[middle]
        table = [_by_way(row, row[middle], further) for row in table]
        if any([row[place] < 0 for place, row in enumerate(table)]):
            return None
    return table


def _by_way(row, step, further):
    """The bounds of a row, each at most that by way of the place to which step leads."""
    return [bound if bound <= step + far else step + far for bound, far in zip(row, further)]


def _side_by_side(first, second, places):
    """For each two places the least bound that is told; if none is, that by way of place 0."""
    many = len(first)
    new = [at for at, place in enumerate(places) if place >= many]
    away = list(first[0]) + [second[0][at] for at in new]
    back = [row[0] for row in first] + [second[at][0] for at in new]
    table = [list(row) + [step + far for far in away[many:]] for row, step in zip(first, back)]
    table.extend([[step + far for far in away] for step in back[many:]])
    for start, row in zip(places, second):
        table[start] = _with_least(table[start], row, places)
    return table


def _with_least(row, bounds, places):
    """A row with the lesser ones of its bounds and of others, which are those to some places."""
    found = list(row)
    for place, bound in zip(places, bounds):
        if bound < found[place]:
            found[place] = bound
    return found


def _joints(first, second, places):
    """The places of both tables by way of which bounds can become less: between two of them a
    bound of the one table follows one of the other."""
    both = [place for place in places if place < len(first)]
    if len(both) < len(places):
        return both
    ends = {}
    for start, row in zip(places, second):
        for goal, bound in zip(places, row):
            if bound < first[start][goal]:
                ends[start] = True
                ends[goal] = True
    return list(ends)
