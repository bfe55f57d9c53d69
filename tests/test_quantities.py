"""[20] the ends of quantities, NoQuotient; [21] verdicts."""

import random
import unittest
from fractions import Fraction

from ellwarden.claims import value_in
from ellwarden.errors import Clash, NoQuotient, NoSpot
from ellwarden.forms import Form
from ellwarden.quantities import Verdict, ends, verdict
from ellwarden.webs import Web
from ellwarden.worlds import GROUND
from brute import corners, fraction, hull, told, value_of
from samples import ratios, spot_form
from test_ends import A, B, BROKEN, EndCase, some_form
from test_shadows import BAND, BOX
from test_webs import random_web, tied

X, Y = spot_form(A), spot_form(B)
BARE = (0, 0)


def const(*ratio):
    return ((), ratio if len(ratio) == 2 else (ratio[0], 1))


def product(x=X, y=Y, scale=(1, 1)):
    return ("product", x, y, scale, BARE)


def quotient(x=X, y=Y, scale=(1, 1)):
    return ("quotient", x, y, scale, BARE)


def square(low, high, least, greatest):
    """a from low to high, b from least to greatest."""
    return Web([GROUND, A, B], tied(A, low, high) + tied(B, least, greatest))


class QuantityCase(EndCase):
    def are_ends(self, web, quantity, low=None, high=None):
        found = ends(web, quantity)
        self.assertIs(type(found), tuple)
        self.assertEqual(len(found), 2)
        for end, value in zip(found, (low, high)):
            self.is_world(web, end.reached)
            self.assertEqual(value_in(end.reached, quantity), end.value)
            if value is not None:
                self.assertEqual(end.value, value if isinstance(value, tuple) else (value, 1))
            if quantity[0] != "sum":
                self.assertIsNone(end.paper)
        return found

    def is_nought(self, web, quantity):
        world = self.raises(NoQuotient, lambda: ends(web, quantity)).world
        self.is_world(web, world)
        self.assertIsNone(value_in(world, quantity))
        world = self.raises(NoQuotient, lambda: verdict(web, quantity, (0, 1), (1, 1))).world
        self.is_world(web, world)
        self.assertIsNone(value_in(world, quantity))


class Sums(QuantityCase):
    def test_ends_with_papers(self):
        for form, low, high in ((X, 1, 4), (spot_form((A, (-1, 2)), B, rest=(1, 3)), (-11, 3), (17, 6)), (const(7, 2), (7, 2), (7, 2))):
            least, greatest = self.are_ends(BOX, ("sum", form, (1,)), low, high)
            self.is_paper(BOX, Form(*form), greatest.paper, greatest.value)
            self.is_paper(BOX, -Form(*form), least.paper, told(-fraction(least.value)))


class Products(QuantityCase):
    def test_at_corners(self):
        self.are_ends(BOX, product(), -8, 12)
        self.are_ends(square(-1, 2, -3, 4), product(), -6, 8)
        self.are_ends(square(-5, -2, -3, -1), product(), 2, 15)
        self.are_ends(BAND, product(), 0, 36)

    def test_within_a_side(self):
        # Along b = 2 - a from (0, 2) to (2, 0) the product rises to 1 and falls again.
        self.are_ends(square(0, 2, 0, 9), product(X, spot_form((A, (-1, 1)), rest=(2, 1))), 0, 1)
        self.are_ends(square(0, 3, 0, 9), product(X, spot_form((A, (-1, 1)), rest=(2, 1))), -3, 1)
        # x * (x - 1) is least at x = 1 / 2, and a square at 0.
        self.are_ends(square(0, 2, 0, 9), product(X, spot_form(A, rest=(-1, 1))), (-1, 4), 2)
        self.are_ends(square(-2, 3, 0, 9), product(X, X), 0, 9)
        self.are_ends(square(2, 3, 0, 9), product(X, X), 4, 9)
        self.are_ends(square(-3, 5, 0, 9), product(spot_form((A, (2, 3)), rest=(1, 1)), spot_form((A, (-1, 2)), rest=(1, 5))), (-299, 30), (361, 1200))

    def test_at_the_very_end_of_a_side(self):
        # It turns at a corner, or just beyond it.
        self.are_ends(square(1, 3, 0, 9), product(X, spot_form((A, (-1, 1)), rest=(2, 1))), -3, 1)
        self.are_ends(square(2, 3, 0, 9), product(X, spot_form((A, (-1, 1)), rest=(2, 1))), -3, 0)
        self.are_ends(square(-2, 1, 0, 9), product(X, spot_form((A, (-1, 1)), rest=(2, 1))), -8, 1)

    def test_on_a_side_of_a_polygon(self):
        self.are_ends(square(0, 4, 0, 4), product(X, spot_form((A, (-1, 1)), B)), -16, 4)
        self.are_ends(BAND, product(spot_form(A, B), spot_form((A, (-1, 1)), B)), -20, 20)
        self.are_ends(BAND, product(X, spot_form((A, (-1, 1)), B, rest=(1, 1))), -6, 12)
        # On the side from (4, 6) to (6, 6) it is a * (10 - a).
        self.are_ends(BAND, product(X, spot_form((A, (-1, 1)), B, rest=(4, 1))), 0, 25)

    def test_scales(self):
        self.are_ends(BOX, product(scale=(1, 2)), -4, 6)
        self.are_ends(BOX, product(scale=(-1, 3)), -4, (8, 3))
        self.are_ends(BOX, product(scale=(0, 1)), 0, 0)
        self.are_ends(square(0, 2, 0, 9), product(X, spot_form((A, (-1, 1)), rest=(2, 1)), (-7, 2)), (-7, 2), 0)

    def test_forms_without_spots(self):
        self.are_ends(BOX, product(X, const(-5, 2)), -10, (-5, 2))
        self.are_ends(BOX, product(const(-5, 2), X), -10, (-5, 2))
        self.are_ends(BOX, product(const(2), const(-3), (1, 4)), (-3, 2), (-3, 2))
        self.are_ends(BOX, product(const(0), Y), 0, 0)

    def test_one_point_and_segments(self):
        self.are_ends(square(3, 3, 5, 5), product(), 15, 15)
        self.are_ends(square(3, 3, -5, 5), product(), -15, 15)


class Quotients(QuantityCase):
    def test_at_corners(self):
        self.are_ends(square(1, 4, 2, 8), quotient(), (1, 8), 2)
        self.are_ends(square(-1, 4, 2, 8), quotient(), (-1, 2), 2)
        self.are_ends(square(-1, 4, -8, -2), quotient(), -2, (1, 2))
        self.are_ends(square(-4, -1, -8, -2), quotient(), (1, 8), 2)
        self.are_ends(square(1, 4, 1, 4), quotient(X, spot_form(A, B)), (1, 5), (4, 5))

    def test_scales_and_forms_without_spots(self):
        web = square(1, 4, 2, 8)
        self.are_ends(web, quotient(scale=(2, 3)), (1, 12), (4, 3))
        self.are_ends(web, quotient(scale=(-3, 1)), -6, (-3, 8))
        self.are_ends(web, quotient(scale=(0, 1)), 0, 0)
        self.are_ends(web, quotient(const(3), Y), (3, 8), (3, 2))
        self.are_ends(web, quotient(X, const(-2)), -2, (-1, 2))
        self.are_ends(web, quotient(const(3), const(2)), (3, 2), (3, 2))
        self.are_ends(web, quotient(X, X), 1, 1)

    def test_divisors_that_are_0_in_some_world(self):
        for web in (square(1, 4, -2, 3), square(1, 4, 0, 3), square(1, 4, -2, 0), square(1, 4, 0, 0), square(0, 0, -1, 7)):
            for x in (X, const(5), const(0), Y):
                for scale in ((1, 1), (0, 1)):
                    self.is_nought(web, quotient(x, Y, scale))
        self.is_nought(BOX, quotient(X, const(0)))
        self.is_nought(BOX, quotient(const(1), const(0)))
        self.is_nought(square(1, 4, 2, 8), quotient(X, spot_form(A, (B, (-1, 1)))))
        self.is_nought(square(1, 4, 2, 8), quotient(X, spot_form((A, (2, 3)), rest=(-2, 1))))
        self.is_nought(square(1, 4, 2, 8), quotient(X, spot_form((A, (2, 3)), (B, (-1, 3)))))

    def test_divisors_that_just_touch_0(self):
        for web in (square(1, 4, 0, 3), square(1, 4, -3, 0)):
            self.is_nought(web, quotient())
        self.is_nought(square(1, 4, 4, 8), quotient(Y, spot_form(B, (A, (-1, 1)))))

    def test_divisors_that_stay_above_or_below(self):
        near = (1, 10 ** 6)
        self.are_ends(square(1, 4, 0, 3), quotient(X, spot_form(B, rest=near)), (10 ** 6, 3 * 10 ** 6 + 1), 4 * 10 ** 6)
        self.are_ends(square(1, 4, -3, 0), quotient(X, spot_form(B, rest=(-1, 10 ** 6))), -4 * 10 ** 6, (-(10 ** 6), 3 * 10 ** 6 + 1))


class AsTold(QuantityCase):
    def test_against_all_corners_of_the_worlds(self):
        rng = random.Random(201)
        kinds = {"ends": 0, "nought": 0, "turns": 0}
        for _ in range(150):
            web = random_web(rng, many=3, further=rng.randint(0, 9))
            if web.bad_ring() is not None:
                continue
            spots = list(web.spots[1:])
            x, y = [some_form(rng, spots, rng.randint(0, 3)).plain() for _ in range(2)]
            scale = told(Fraction(rng.randint(-3, 3), rng.randint(1, 3)))
            pairs = hull([(value_of(x, values), value_of(y, values)) for values in corners(web)])
            low, high = self.are_ends(web, product(x, y, scale))
            rim = [fraction(scale) * a * b for a, b in self.rim(pairs)]
            self.assertLessEqual(fraction(low.value), min(rim))
            self.assertGreaterEqual(fraction(high.value), max(rim))
            at_corners = [fraction(scale) * a * b for a, b in pairs]
            kinds["turns"] += fraction(high.value) > max(at_corners) or fraction(low.value) < min(at_corners)
            if min(pair[1] for pair in pairs) <= 0 <= max(pair[1] for pair in pairs):
                self.is_nought(web, quotient(x, y, scale))
                kinds["nought"] += 1
            else:
                values = [fraction(scale) * a / b for a, b in pairs]
                self.are_ends(web, quotient(x, y, scale), told(min(values)), told(max(values)))
                kinds["ends"] += 1
        self.assertGreater(min(kinds.values()), 5, kinds)

    def rim(self, pairs):
        """Points all round a polygon."""
        for at, goal in enumerate(pairs):
            start = pairs[at - 1]
            for step in range(20):
                yield tuple(a + Fraction(step, 20) * (b - a) for a, b in zip(start, goal))


class Verdicts(QuantityCase):
    def told(self, web, quantity, G, N, word):
        G, N = [number if isinstance(number, tuple) else (number, 1) for number in (G, N)]
        found = verdict(web, quantity, G, N)
        self.assertIsInstance(found, Verdict)
        self.assertEqual(found.word, word)
        self.assertIs(bool(found), word != "open")
        if word == "open":
            for world, limit, other in ((found.good, G, N), (found.bad, N, G)):
                self.is_world(web, world)
                value = fraction(value_in(world, quantity))
                self.assertTrue(value <= fraction(limit) if fraction(limit) < fraction(other) else value >= fraction(limit))
        else:
            self.assertIsNone(found.good)
            self.assertIsNone(found.bad)

    def test_limits_at_just_within_and_just_beyond_the_ends(self):
        # a lies from 1 to 4.
        for G, N, word in (
            (2, 3, "open"), (1, 4, "open"), (1, (41, 10), "passed"), (1, (39, 10), "open"), (2, 5, "passed"), ((9, 10), 4, "failed"), ((11, 10), 4, "open"), (0, 2, "failed"),
            (0, 5, "passed"), (5, 6, "passed"), (4, 5, "passed"), (-1, 0, "failed"), (0, 1, "failed"), (1, 2, "open"), (3, 4, "open"),
            (3, 2, "open"), (4, 1, "open"), (4, (9, 10), "passed"), (4, (11, 10), "open"), ((41, 10), 1, "failed"), ((39, 10), 1, "open"), (5, 3, "failed"), (5, 0, "passed"),
            (0, -1, "passed"), (1, 0, "passed"), (6, 5, "failed"), (5, 4, "failed"), (2, 1, "open"), (4, 3, "open"),
        ):
            self.told(BOX, ("sum", X, (1,)), G, N, word)

    def test_values_between_the_limits_are_neither(self):
        self.told(BOX, ("sum", X, (1,)), 0, 5, "passed")
        self.told(BOX, ("sum", X, (1,)), 5, 0, "passed")
        self.told(BOX, ("sum", const(2), (1,)), 1, 3, "passed")
        self.told(BOX, ("sum", const(2), (1,)), 2, 3, "passed")
        self.told(BOX, ("sum", const(2), (1,)), 1, 2, "failed")
        self.told(BOX, ("sum", const(2), (1,)), 3, 2, "failed")

    def test_products_and_quotients(self):
        self.told(BOX, product(), -8, 12, "open")
        self.told(BOX, product(), -8, 13, "passed")
        self.told(BOX, product(), -9, 12, "failed")
        self.told(square(0, 3, 0, 9), product(X, spot_form((A, (-1, 1)), rest=(2, 1))), 0, 1, "open")
        self.told(square(0, 3, 0, 9), product(X, spot_form((A, (-1, 1)), rest=(2, 1))), 0, (101, 100), "passed")
        self.told(square(0, 3, 0, 9), product(X, spot_form((A, (-1, 1)), rest=(2, 1))), 1, -3, "open")
        self.told(square(1, 4, 2, 8), quotient(), (1, 8), 2, "open")
        self.told(square(1, 4, 2, 8), quotient(), 2, (1, 9), "passed")
        self.told(square(1, 4, 2, 8), quotient(), (1, 9), 2, "failed")

    def test_limits_are_compared_as_numbers(self):
        self.told(BOX, ("sum", const(2, 5), (1,)), (3, 10), (1, 2), "passed")
        self.told(BOX, ("sum", const(1, 3), (1,)), (1, 2), (3, 10), "passed")


class Refusals(QuantityCase):
    def test_no_spot_then_clash_then_no_quotient(self):
        first, second = spot_form(("y", 0, 0)), spot_form(("z", 0, 0))
        touched = Web([GROUND, A], tied(A, 0, 3))
        for call in (ends, lambda web, quantity: verdict(web, quantity, *ratios(1, 2))):
            for web in (touched, BROKEN):
                self.raises(NoSpot, lambda: call(web, ("sum", second, (1,))), spot=("z", 0, 0))
                for make in (product, quotient):
                    self.raises(NoSpot, lambda: call(web, make(first, second)), spot=("y", 0, 0))
                    self.raises(NoSpot, lambda: call(web, make(second, const(0))), spot=("z", 0, 0))
                    self.raises(NoSpot, lambda: call(web, make(X, second)), spot=("z", 0, 0))
            for quantity in (("sum", X, (1,)), ("sum", const(1), (1,)), product(X, X), quotient(X, X), quotient(X, const(0)), product(const(1), const(1))):
                self.is_ring(BROKEN, self.raises(Clash, lambda: call(BROKEN, quantity)).ring)
            self.raises(NoQuotient, lambda: call(touched, quotient(X, X)))


if __name__ == "__main__":
    unittest.main()
