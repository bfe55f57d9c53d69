"""[19] shadows: corners, sides with their papers, points in them, worlds that have a point."""

import random
import unittest
from fractions import Fraction
from math import gcd

from ellwarden.errors import Clash, NoPoint, NoSpot
from ellwarden.forms import Form
from ellwarden.shadows import Shadow
from ellwarden.webs import Web
from ellwarden.worlds import GROUND
from brute import corners, fraction, hull, told, value_of
from test_ends import A, B, BROKEN, C, EndCase, some_form, web_with_a_world
from test_webs import random_web, tied

X, Y = Form.of(A), Form.of(B)
BOX = Web([GROUND, A, B], tied(A, 1, 4) + tied(B, -2, 3))
# Where both lie from 0 to 6, and b neither more than 2 above a nor more than 2 below it.
BAND = Web([GROUND, A, B], tied(A, 0, 6) + tied(B, 0, 6) + [(A, B, 2, ("news", 0)), (B, A, 2, ("news", 0))])


def points(*pairs):
    return tuple(tuple(number if isinstance(number, tuple) else (number, 1) for number in pair) for pair in pairs)


class ShadowCase(EndCase):
    def is_shadow(self, web, x, y, pairs):
        """A shadow with these corners, and all that it tells of them."""
        shadow = Shadow(web, x, y)
        self.assertIs(shadow.x, x)
        self.assertIs(shadow.y, y)
        self.assertEqual(shadow.corners, pairs)
        self.assertIs(type(shadow.corners), tuple)
        self.assertEqual(len(shadow), len(pairs))
        self.assertEqual([side[:2] for side in shadow.sides], self.directions(pairs))
        self.assertIs(type(shadow.sides), tuple)
        for p, q, c, paper in shadow.sides:
            form = x * (p, 1) + y * (q, 1)
            self.assertEqual(fraction(c), max(p * fraction(a) + q * fraction(b) for a, b in pairs))
            self.is_paper(web, form, paper, c)
        for pair in pairs:
            self.has_point(web, shadow, pair)
        return shadow

    def directions(self, pairs):
        """The pairs (p, q), as they are told."""
        if len(pairs) == 1:
            return [(1, 0), (0, 1), (-1, 0), (0, -1)]
        found = []
        for at, (x, y) in enumerate(pairs):
            right, up = pairs[(at + 1) % len(pairs)]
            dx, dy = fraction(right) - fraction(x), fraction(up) - fraction(y)
            many = dx.denominator * dy.denominator
            dx, dy = int(dx * many), int(dy * many)
            found.append((dx // gcd(dx, dy), dy // gcd(dx, dy)))
        if len(pairs) > 2:
            return [(dy, -dx) for dx, dy in found]
        dx, dy = found[0]
        return [(dy, -dx), (-dy, dx), (dx, dy), (-dx, -dy)]

    def has_point(self, web, shadow, point):
        self.assertIs(point in shadow, True, point)
        world = shadow.world_at(point)
        self.is_world(web, world)
        self.assertEqual((shadow.x(world), shadow.y(world)), point)

    def has_not(self, shadow, *things):
        for thing in things:
            self.assertIs(thing in shadow, False, thing)
            self.raises(NoPoint, lambda: shadow.world_at(thing), point=thing)


class Polygons(ShadowCase):
    def test_a_box(self):
        shadow = self.is_shadow(BOX, X, Y, points((1, -2), (4, -2), (4, 3), (1, 3)))
        self.assertEqual([side[:3] for side in shadow.sides], [(0, -1, (2, 1)), (1, 0, (4, 1)), (0, 1, (3, 1)), (-1, 0, (-1, 1))])

    def test_both_orders(self):
        self.is_shadow(BOX, Y, X, points((-2, 1), (3, 1), (3, 4), (-2, 4)))
        self.is_shadow(BAND, Y, X, points((0, 0), (2, 0), (6, 4), (6, 6), (4, 6), (0, 2)))

    def test_a_band(self):
        shadow = self.is_shadow(BAND, X, Y, points((0, 0), (2, 0), (6, 4), (6, 6), (4, 6), (0, 2)))
        self.assertEqual([side[:3] for side in shadow.sides], [
            (0, -1, (0, 1)), (1, -1, (2, 1)), (1, 0, (6, 1)), (0, 1, (6, 1)), (-1, 1, (2, 1)), (-1, 0, (0, 1)),
        ])

    def test_the_first_corner(self):
        # Of the corners with the least x the one with the least y, also where x is turned.
        self.is_shadow(BAND, -X, Y, points((-6, 4), (-2, 0), (0, 0), (0, 2), (-4, 6), (-6, 6)))
        self.is_shadow(BAND, X, -Y, points((0, -2), (4, -6), (6, -6), (6, -4), (2, 0), (0, 0)))
        self.is_shadow(BAND, X + Y, Y - X, points((0, 0), (2, -2), (10, -2), (12, 0), (10, 2), (2, 2)))

    def test_rests_and_factors(self):
        self.is_shadow(BOX, Form([(A, (1, 2))], (1, 3)), Form([(B, (-2, 3))], (-1, 1)), points(
            ((5, 6), (-3, 1)), ((7, 3), (-3, 1)), ((7, 3), (1, 3)), ((5, 6), (1, 3)),
        ))

    def test_triangles(self):
        web = Web([GROUND, A, B], tied(A, 0, 3) + tied(B, 0, 3) + [(A, B, 0, ("news", 0))])
        shadow = self.is_shadow(web, X, Y, points((0, 0), (3, 0), (3, 3)))
        self.assertEqual([side[:3] for side in shadow.sides], [(0, -1, (0, 1)), (1, 0, (3, 1)), (-1, 1, (0, 1))])
        self.is_shadow(web, Y, X, points((0, 0), (3, 3), (0, 3)))

    def test_points(self):
        shadow = Shadow(BAND, X, Y)
        for pair in points((1, 0), (1, 1), (3, 2), (3, 1), (6, 5), (5, 6), (0, 1), ((1, 3), (7, 3)), ((5, 2), (1, 2)), ((17, 3), (11, 2)), ((1, 100), (1, 100))):
            self.has_point(BAND, shadow, pair)
        near = Fraction(1, 10 ** 9)
        self.has_point(BAND, shadow, (told(2 + near), told(near)))
        self.has_not(shadow, *[tuple(map(told, pair)) for pair in (
            (2 + near, 0), (-near, 0), (0, -near), (6 + near, 5), (6, 4 - near), (3, 5 + near), (3, 1 - near), (4, 6 + near), (0, 2 + near), (0, 5), (9, 9), (-1, -1),
        )])

    def test_what_is_no_point(self):
        shadow = Shadow(BOX, X, Y)
        self.assertIn(points((1, 1))[0], shadow)
        self.has_not(shadow, None, 5, (), (1, 1), ((1, 1),), ((1, 1), (1, 1), (1, 1)), [(1, 1), (1, 1)], ([1, 1], (1, 1)), ((1, 1), (2, 2)), ((True, 1), (1, 1)), ((1, 1), (1, True)), "ab", ((1, 1), None))


class Segments(ShadowCase):
    def test_segments_in_all_directions(self):
        for x, y, pairs in (
            (X, X, points((1, 1), (4, 4))), (X, -X, points((1, -1), (4, -4))), (X, X * (2, 3), points((1, (2, 3)), (4, (8, 3)))), (X, Form(rest=(7, 2)), points((1, (7, 2)), (4, (7, 2)))),
            (Form(rest=(-1, 2)), Y, points(((-1, 2), -2), ((-1, 2), 3))), (-X, X * (-3, 1), points((-4, -12), (-1, -3))), (-Y, Y, points((-3, 3), (2, -2))),
        ):
            shadow = self.is_shadow(BOX, x, y, pairs)
            start, goal = [tuple(map(fraction, pair)) for pair in pairs]
            for part in (Fraction(0), Fraction(1, 3), Fraction(1, 2), Fraction(1)):
                middle = tuple(told(a + part * (b - a)) for a, b in zip(start, goal))
                self.has_point(BOX, shadow, middle)
                self.has_not(shadow, (middle[0], told(fraction(middle[1]) + Fraction(1, 99) if start[0] != goal[0] else fraction(middle[1]) + 99)))
            for part in (Fraction(-1, 99), Fraction(100, 99)):
                self.has_not(shadow, tuple(told(a + part * (b - a)) for a, b in zip(start, goal)))

    def test_sides_of_a_segment(self):
        # From (1, -1) on to (4, -4): once along each side of it, then behind each end.
        self.assertEqual([side[:3] for side in Shadow(BOX, X, -X).sides], [(-1, -1, (0, 1)), (1, 1, (0, 1)), (1, -1, (8, 1)), (-1, 1, (-2, 1))])
        self.assertEqual([side[:3] for side in Shadow(BOX, X, X * (2, 3)).sides], [(2, -3, (0, 1)), (-2, 3, (0, 1)), (3, 2, (52, 3)), (-3, -2, (-13, 3))])


class Points(ShadowCase):
    def test_one_point(self):
        web = Web([GROUND, A, B], tied(A, 5, 5) + tied(B, 0, 3))
        for where, x, y, pair in (
            (BOX, Form(), Form(), (0, 0)), (BOX, Form(rest=(1, 2)), Form(rest=(-3, 1)), ((1, 2), -3)), (web, X, Form(rest=(1, 1)), (5, 1)), (web, X, X * (-1, 2), (5, (-5, 2))),
        ):
            shadow = self.is_shadow(where, x, y, points(pair))
            self.assertEqual(len(shadow.sides), 4)
            for right, up in ((1, 0), (0, 1), (-1, 0), (0, -1)):
                far = (told(fraction(shadow.corners[0][0]) + right), told(fraction(shadow.corners[0][1]) + up))
                self.has_not(shadow, far)
        self.assertEqual([side[:3] for side in Shadow(web, X, Form(rest=(1, 2))).sides], [(1, 0, (5, 1)), (0, 1, (1, 2)), (-1, 0, (-5, 1)), (0, -1, (-1, 2))])


class AsTold(ShadowCase):
    def test_against_all_corners_of_the_worlds(self):
        rng = random.Random(191)
        most = 0
        for _ in range(120):
            web = random_web(rng, many=4, further=rng.randint(0, 12))
            if web.bad_ring() is not None:
                continue
            spots = list(web.spots[1:])
            x, y = some_form(rng, spots, rng.randint(0, 4)), some_form(rng, spots, rng.randint(0, 4))
            pairs = hull([(value_of(x.plain(), values), value_of(y.plain(), values)) for values in corners(web)])
            most = max(most, len(pairs))
            shadow = self.is_shadow(web, x, y, tuple(tuple(map(told, pair)) for pair in pairs))
            for _ in range(4):
                weights = [rng.randint(0, 5) for _ in pairs]
                if sum(weights):
                    middle = tuple(told(sum((weight * pair[axis] for weight, pair in zip(weights, pairs)), Fraction(0)) / sum(weights)) for axis in (0, 1))
                    self.has_point(web, shadow, middle)
        self.assertGreater(most, 7)

    def test_more_spots(self):
        rng = random.Random(192)
        for _ in range(6):
            web = web_with_a_world(rng, 20, 60)
            spots = list(web.spots[1:])
            x, y = some_form(rng, spots, 6), some_form(rng, spots, 6)
            shadow = Shadow(web, x, y)
            self.is_shadow(web, x, y, shadow.corners)
            pairs = [tuple(map(fraction, pair)) for pair in shadow.corners]
            self.assertEqual(hull(pairs), pairs)


class Refusals(ShadowCase):
    def test_no_spot_then_clash(self):
        first, second = ("y", 0, 0), ("z", 0, 0)
        for web in (BOX, BROKEN):
            self.raises(NoSpot, lambda: Shadow(web, Form.of(first), Form.of(second)), spot=first)
            self.raises(NoSpot, lambda: Shadow(web, X, Form.of(second) + Form.of(first)), spot=first)
            self.raises(NoSpot, lambda: Shadow(web, Form.of(C), Form.of(A)), spot=C)
        for x, y in ((X, X), (Form(), Form())):
            self.is_ring(BROKEN, self.raises(Clash, lambda: Shadow(BROKEN, x, y)).ring)


if __name__ == "__main__":
    unittest.main()
