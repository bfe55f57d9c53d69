"""The outline of what two forms come to in all worlds of a web: its corners, in order."""

from ellwarden.frames import Frame
from ellwarden.ratios import common_below, plus, ratio, times_whole


class Outline:
    """The corners of the shadow of two forms, as told of a shadow. points has a pair of ratios
    for each of them, rows the values of the spots of frame with which the forms come to it."""

    def __init__(self, web, x, y):
        spots = [spot for spot, _ in x.terms]
        spots.extend([spot for spot, _ in y.terms if spot not in spots])
        self.frame = Frame(web, spots)
        many = common_below([factor for _, factor in x.terms + y.terms])
        self._across = _needs(spots, x, many)
        self._up = _needs(spots, y, many)
        corners = _from_first(_without_flat(self._boundary()))
        self.points = [_point(corner, many, x.rest, y.rest) for corner in corners]
        self.rows = [corner[2] for corner in corners]

    def _boundary(self):
        """Points on the boundary, each next one further round it, all corners among them."""
        left = self._farthest(-1, 0)
        right = self._farthest(1, 0)
        if left[0] < right[0]:
            return self._between(left, right) + self._between(right, left)
        low = self._farthest(0, -1)
        high = self._farthest(0, 1)
        return [low, high] if low[1] < high[1] else [low]

    def _between(self, start, goal):
        """The points on the boundary from start on to goal, this one left out."""
        row = [start]
        ahead = [goal]
        while len(ahead) > 0:
            here = row[-1]
            there = ahead[-1]
            p = there[1] - here[1]
            q = here[0] - there[0]
            found = self._farthest(p, q)
            if p * found[0] + q * found[1] > p * here[0] + q * here[1]:
                ahead.append(found)
            else:
                row.append(ahead.pop())
        return row[:-1]

    def _farthest(self, p, q):
        """A point for which p times across plus q times up is greatest, with values that come
        to it: a triple (across, up, values) of whole numbers."""
        needs = [p * across + q * up for across, up in zip(self._across, self._up)]
        values, _ = self.frame.best(needs)
        across = sum([need * value for need, value in zip(self._across, values)])
        up = sum([need * value for need, value in zip(self._up, values)])
        return (across, up, values)


def _needs(spots, form, many):
    """The factors of the spots in a form, many times."""
    factors = {}
    for spot, factor in form.terms:
        factors[spot] = times_whole(factor, many)
    return [factors.get(spot, 0) for spot in spots]


def _point(corner, many, right, up):
    """The pair of ratios of a corner: many times smaller, and moved by the rests."""
    return (plus(ratio(corner[0], many), right), plus(ratio(corner[1], many), up))


def _turn(start, middle, goal):
    """0 if three points are on one line, above 0 if the way through them turns left."""
    across = (middle[0] - start[0]) * (goal[1] - middle[1])
    return across - (middle[1] - start[1]) * (goal[0] - middle[0])


def _without_flat(row):
    """The points without those within a side."""
    if len(row) < 3:
        return row
    kept = []
    for place, point in enumerate(row):
        if _turn(row[place - 1], point, row[(place + 1) % len(row)]) != 0:
            kept.append(point)
    return kept


def _from_first(row):
    """The points in their order, from the one with the least across, then the least up, on."""
    starts = [(across, up) for across, up, _ in row]
    at = starts.index(min(starts))
    return row[at:] + row[:at]
