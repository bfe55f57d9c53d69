"""The plain way: all corners of the worlds of a small web, and what forms come to there."""

from fractions import Fraction

from ellwarden.worlds import GROUND
from test_webs import all_bounds


def corners(web):
    """The corners of the worlds, dicts of integers: in each one every spot is tied to the ground
    by a row of bounds that are reached."""
    bounds = all_bounds(web)
    found = {((GROUND, 0),)}
    for _ in web.spots[1:]:
        longer = set()
        for known in found:
            values = dict(known)
            for spot in web.spots:
                if spot in values:
                    continue
                for other in values:
                    for value in (values[other] + bounds[other, spot], values[other] - bounds[spot, other]):
                        if all(value - values[a] <= bounds[a, spot] and values[a] - value <= bounds[spot, a] for a in values):
                            longer.add(tuple(sorted({**values, spot: value}.items())))
        found = longer
    return [dict(known) for known in sorted(found)]


def fraction(ratio):
    return Fraction(*ratio)


def told(number):
    """A fraction as a ratio."""
    number = Fraction(number)
    return (number.numerator, number.denominator)


def value_of(plain, values):
    """The value of a plain form, where spots have these values."""
    terms, rest = plain
    return sum((fraction(factor) * values[spot] for spot, factor in terms), fraction(rest))


def cross(a, b, c):
    return (b[0] - a[0]) * (c[1] - b[1]) - (b[1] - a[1]) * (c[0] - b[0])


def hull(points):
    """The corners of the hull of some points, from the least one on, the inside on the left."""
    points = sorted(set(points))
    if len(points) < 3:
        return points
    rows = []
    for row in (points, points[::-1]):
        kept = []
        for point in row:
            while len(kept) > 1 and cross(kept[-2], kept[-1], point) <= 0:
                kept.pop()
            kept.append(point)
        rows.append(kept[:-1])
    return rows[0] + rows[1] if rows[0] + rows[1] != [points[0], points[-1]] else [points[0], points[-1]]
