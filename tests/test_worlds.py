"""[8] spots and the ground, [9] what a link says and when a world keeps it."""

import unittest

from ellwarden.errors import BadWorld, NoSpot
from ellwarden.worlds import GROUND, World, higher, is_spot, lower

A = ("a", 0, 0)
B = ("b", 1, 2)
C = ("c", 0, 1)


def world(**values):
    """A world of A, B, C as far as they are told, in this order."""
    pairs = [(GROUND, (0, 1))]
    for name, spot in (("a", A), ("b", B), ("c", C)):
        if name in values:
            pairs.append((spot, values[name]))
    return World(pairs)


class Spots(unittest.TestCase):
    def test_the_ground(self):
        self.assertEqual(GROUND, ("ground", 0, 0))
        self.assertIs(is_spot(GROUND), True)

    def test_spots(self):
        for spot in (A, B, ("", 0, 0), ("Any text", -1, -5), ("a", 10 ** 50, 0)):
            self.assertIs(is_spot(spot), True)

    def test_what_is_none(self):
        for thing in (
            ["a", 0, 0], ("a", 0), ("a", 0, 0, 0), (0, "a", 0), (0, 0, 0), ("a", "0", 0), ("a", 0, "0"), "a00", None, (),
            ("a", True, 0), ("a", 0, False), ("a", False, 0), ("a", 0, True), ("a", 0.0, 0), (None, 0, 0), (b"a", 0, 0),
            ("a", None, 0), {"a": 0, "b": 0, "c": 0}, 3, (("a",), 0, 0),
        ):
            self.assertIs(is_spot(thing), False, repr(thing))


class Making(unittest.TestCase):
    def refused(self, pairs, place):
        with self.assertRaises(BadWorld, msg=repr(pairs)) as caught:
            World(pairs)
        self.assertEqual(caught.exception.place, place, repr(pairs))

    def test_no_pairs(self):
        self.refused([], 0)
        self.refused((), 0)

    def test_the_ground_first_with_0(self):
        self.refused([(A, (0, 1))], 0)
        self.refused([(A, (1, 1)), (GROUND, (0, 1))], 0)
        self.refused([(GROUND, (1, 1))], 0)
        self.refused([(GROUND, (0, 2))], 0)
        self.refused([(GROUND, 0)], 0)
        self.refused([(GROUND, (0, 1)), (GROUND, (0, 1))], 1)
        self.refused([(GROUND, (0, 1)), (A, (1, 1)), (GROUND, (0, 1))], 2)
        self.refused([(("ground", 0, False), (0, 1))], 0)

    def test_pairs_that_are_none(self):
        for pair in (
            [A, (1, 1)], (A,), (A, (1, 1), 1), (), None, "ab", A, (A, 1), (A, (2, 2)), (A, [1, 1]), (A, (1, 0)),
            (A, (True, 1)), (A, (1, True)), (A, None), (A, (1, -1)), (["a", 0, 0], (1, 1)), (("a", True, 0), (1, 1)),
            (("a", 0, False), (1, 1)), (("a", 0), (1, 1)), ((0, 0, 0), (1, 1)), ("a", (1, 1)), ((1, 1), A),
        ):
            self.refused([(GROUND, (0, 1)), pair], 1)
            self.refused(((GROUND, (0, 1)), (B, (1, 1)), pair, pair), 2)

    def test_a_spot_that_comes_twice(self):
        self.refused([(GROUND, (0, 1)), (A, (1, 1)), (B, (1, 1)), (A, (1, 1))], 3)
        self.refused([(GROUND, (0, 1)), (A, (1, 1)), (A, (2, 1)), (B, 5)], 2)

    def test_the_first_wrong_place_is_told(self):
        self.refused([(GROUND, (0, 1)), (A, (1, 1)), (B, 1), (A, (1, 1)), None], 2)

    def test_rows_are_copied(self):
        pairs = [(GROUND, (0, 1)), (A, (1, 2))]
        made = World(pairs)
        pairs[1] = (B, (5, 1))
        pairs.append((C, (5, 1)))
        self.assertEqual(list(made), [GROUND, A])
        self.assertEqual(made, World(((GROUND, (0, 1)), (A, (1, 2)))))


class Reading(unittest.TestCase):
    def test_values_and_order(self):
        made = World([(GROUND, (0, 1)), (B, (-3, 2)), (A, (5, 1))])
        self.assertEqual([made[GROUND], made[A], made[B]], [(0, 1), (5, 1), (-3, 2)])
        self.assertEqual(list(made), [GROUND, B, A])
        self.assertEqual(len(made), 3)
        self.assertEqual(len(World([(GROUND, (0, 1))])), 1)

    def test_in(self):
        made = world(a=(1, 1))
        self.assertIs(GROUND in made, True)
        self.assertIs(A in made, True)
        for thing in (B, "a", None, ("a", False, 0), ("a", 0), ["a", 0, 0], ("a", [], 0), ("a", 0, 0.0), 0):
            self.assertIs(thing in made, False, repr(thing))

    def test_no_spot(self):
        made = World([(GROUND, (0, 1)), (("a", 1, 0), (1, 1))])
        for thing in (A, ("a", True, 0), ("a", 1, False), ("a", 1), "a", ["a", 1, 0], ("a", [], 0), 0, -1):
            with self.assertRaises(NoSpot, msg=repr(thing)) as caught:
                made[thing]
            self.assertEqual(caught.exception.spot, thing)

    def test_equal_by_spots_in_any_order(self):
        first = World([(GROUND, (0, 1)), (A, (1, 1)), (B, (2, 3))])
        self.assertEqual(first, World([(GROUND, (0, 1)), (B, (2, 3)), (A, (1, 1))]))
        self.assertNotEqual(first, World([(GROUND, (0, 1)), (A, (1, 1)), (B, (2, 5))]))
        self.assertNotEqual(first, World([(GROUND, (0, 1)), (A, (1, 1))]))
        self.assertNotEqual(world(a=(1, 1)), first)
        self.assertNotEqual(first, World([(GROUND, (0, 1)), (A, (1, 1)), (C, (2, 3))]))

    def test_equal_with_other_things(self):
        made = world(a=(1, 1))
        for thing in (None, 1, {GROUND: (0, 1), A: (1, 1)}, ((GROUND, (0, 1)), (A, (1, 1))), [GROUND, A], "world"):
            self.assertIs(made == thing, False)
            self.assertIs(made != thing, True)


class Keeping(unittest.TestCase):
    def test_gap(self):
        made = world(a=(1, 2), b=(-2, 3))
        self.assertEqual(made.gap(A, B), (-7, 6))
        self.assertEqual(made.gap(B, A), (7, 6))
        self.assertEqual(made.gap(GROUND, A), (1, 2))
        self.assertEqual(made.gap(B, GROUND), (2, 3))
        self.assertEqual(made.gap(A, A), (0, 1))

    def test_keeps_at_below_and_above_the_bound(self):
        for value, kept in (((5, 1), True), ((49, 10), True), ((51, 10), False), ((-900, 1), True), ((6, 1), False)):
            made = world(a=(2, 1), b=(value[0] + 2 * value[1], value[1]))
            self.assertIs(made.keeps((A, B, 5, ("range", "a"))), kept, value)

    def test_keeps_with_the_ground_and_bounds_below_0(self):
        made = world(a=(-7, 2))
        self.assertIs(made.keeps((GROUND, A, -3, ("x",))), True)
        self.assertIs(made.keeps((GROUND, A, -4, ("x",))), False)
        self.assertIs(made.keeps((A, GROUND, 4, ("x",))), True)
        self.assertIs(made.keeps((A, GROUND, 3, ("x",))), False)

    def test_no_spot_of_the_first_that_lacks(self):
        made = world(a=(1, 1))
        for pair, lacking in (((A, B), B), ((B, A), B), ((B, C), B), ((C, B), C), ((("a", 0, False), C), ("a", 0, False))):
            with self.assertRaises(NoSpot) as caught:
                made.gap(*pair)
            self.assertEqual(caught.exception.spot, lacking)
            with self.assertRaises(NoSpot) as caught:
                made.keeps((pair[0], pair[1], 5, ("x",)))
            self.assertEqual(caught.exception.spot, lacking)


class HigherAndLower(unittest.TestCase):
    def test_greater_and_lesser_values(self):
        first = World([(GROUND, (0, 1)), (A, (1, 2)), (B, (-1, 1)), (C, (5, 1))])
        second = World([(GROUND, (0, 1)), (C, (5, 1)), (B, (-3, 2)), (A, (2, 3))])
        above = higher(first, second)
        below = lower(first, second)
        self.assertEqual(above, world(a=(2, 3), b=(-1, 1), c=(5, 1)))
        self.assertEqual(below, world(a=(1, 2), b=(-3, 2), c=(5, 1)))
        self.assertIsInstance(above, World)
        self.assertIsInstance(below, World)

    def test_in_the_order_of_the_first(self):
        first = World([(GROUND, (0, 1)), (C, (5, 1)), (A, (1, 2))])
        second = World([(GROUND, (0, 1)), (A, (1, 1)), (C, (6, 1))])
        for made in (higher(first, second), lower(first, second)):
            self.assertEqual(list(made), [GROUND, C, A])
        for made in (higher(second, first), lower(second, first)):
            self.assertEqual(list(made), [GROUND, A, C])

    def test_ratios_are_compared_as_numbers(self):
        first, second = world(a=(1, 3)), world(a=(1, 2))
        self.assertEqual(higher(first, second)[A], (1, 2))
        self.assertEqual(lower(first, second)[A], (1, 3))
        self.assertEqual(higher(second, first)[A], (1, 2))
        self.assertEqual(lower(second, first)[A], (1, 3))

    def test_no_spot_of_first_then_of_second(self):
        for first, second, lacking in (
            (world(a=(1, 1), b=(1, 1), c=(1, 1)), world(a=(1, 1)), B),
            (World([(GROUND, (0, 1)), (C, (1, 1)), (B, (1, 1))]), world(a=(1, 1)), C),
            (world(a=(1, 1)), World([(GROUND, (0, 1)), (C, (1, 1)), (A, (1, 1)), (B, (1, 1))]), C),
            (world(b=(1, 1)), world(a=(1, 1), c=(1, 1)), B),
        ):
            for pick in (higher, lower):
                with self.assertRaises(NoSpot) as caught:
                    pick(first, second)
                self.assertEqual(caught.exception.spot, lacking)

    def test_both_worlds_stay_as_they_are(self):
        first, second = world(a=(1, 3)), world(a=(1, 2))
        higher(first, second)
        lower(first, second)
        self.assertEqual(first, world(a=(1, 3)))
        self.assertEqual(second, world(a=(1, 2)))


if __name__ == "__main__":
    unittest.main()
