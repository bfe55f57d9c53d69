"""Shadows: what two forms come to, together, in all worlds of a web."""

from math import gcd

from ellwarden.checks import is_tuple_of
from ellwarden.ends import greatest
from ellwarden.errors import NoPoint
from ellwarden.outlines import Outline
from ellwarden.ratios import common_below, compare, is_ratio, minus, over, plus, times, times_whole


class Shadow:
    """The polygon, segment or point of two forms."""

    def __init__(self, web, x, y):
        self.x = x
        self.y = y
        self._outline = Outline(web, x, y)
        self.corners = tuple(self._outline.points)
        sides = []
        for p, q in _directions(self.corners):
            end = greatest(web, x * (p, 1) + y * (q, 1))
            sides.append((p, q, end.value, end.paper))
        self.sides = tuple(sides)

    def __len__(self):
        return len(self.corners)

    def __contains__(self, x):
        if not is_tuple_of(x, 2) or not is_ratio(x[0]) or not is_ratio(x[1]):
            return False
        for p, q, c, _ in self.sides:
            if compare(plus(times((p, 1), x[0]), times((q, 1), x[1])), c) > 0:
                return False
        return True

    def world_at(self, point):
        """A world that has this point."""
        if point not in self:
            raise NoPoint(point)
        for places in _parts(len(self.corners)):
            weights = _weights([self.corners[place] for place in places], point)
            if all([weight[0] >= 0 for weight in weights]):
                break
        # The parts cover the shadow, so the last one that was looked at has the point.
        return self._outline.frame.blend([self._outline.rows[place] for place in places], weights)


def _directions(corners):
    """The pairs (p, q) of the sides, in order."""
    if len(corners) == 1:
        return [(1, 0), (0, 1), (-1, 0), (0, -1)]
    steps = []
    for place, corner in enumerate(corners):
        steps.append(_step(corner, corners[(place + 1) % len(corners)]))
    if len(corners) > 2:
        return [(dy, -dx) for dx, dy in steps]
    dx, dy = steps[0]
    return [(dy, -dx), (-dy, dx), (dx, dy), (-dx, -dy)]


def _step(start, goal):
    """The way from a point to another, as a pair of integers without a common divisor."""
    dx = minus(goal[0], start[0])
    dy = minus(goal[1], start[1])
    many = common_below([dx, dy])
    across = times_whole(dx, many)
    up = times_whole(dy, many)
    common = gcd(across, up)
    return (across // common, up // common)


def _parts(many):
    """The places of corners of triangles that cover a polygon with so many corners; one row
    of all places for a segment or a point."""
    if many < 3:
        return [list(range(many))]
    return [[0, place, place + 1] for place in range(1, many - 1)]


def _weights(corners, point):
    """The weights with which the mean of the corners is a point; not all are from 0 on if it
    lies outside of them."""
    if len(corners) == 1:
        return [(1, 1)]
    if len(corners) == 2:
        start, goal = corners
        axis = 0 if start[0] != goal[0] else 1
        part = over(minus(point[axis], start[axis]), minus(goal[axis], start[axis]))
        return [minus((1, 1), part), part]
    first, second, third = corners
    return [_area(second, third, point), _area(third, first, point), _area(first, second, point)]


def _area(start, goal, point):
    """Twice the area of a triangle, below 0 if it is told clockwise."""
    left = times(minus(goal[0], start[0]), minus(point[1], start[1]))
    return minus(left, times(minus(goal[1], start[1]), minus(point[0], start[0])))
