"""[18], [20], [22] quantities and claims: their form, their value in a world, what is good and bad ([21]), what is denied."""

import random
import unittest
from fractions import Fraction

from ellwarden.claims import denies, is_bad, is_claim, is_good, is_quantity, value_in
from ellwarden.errors import NoSpot
from ellwarden.worlds import GROUND, World
from samples import Case, spot_form, swapped

A, B, C = ("a", 0, 0), ("b", 1, 2), ("c", -3, 7)
FORM = spot_form(A, (B, (2, 3)), rest=(5, 2))
BARE = ((), (3, 1))
SUM = ("sum", FORM, (1, 0))
PRODUCT = ("product", FORM, BARE, (-7, 2), (9, -9, 0, 1))
QUOTIENT = ("quotient", BARE, FORM, (0, 1), (0,))
WORLD = World([(GROUND, (0, 1)), (A, (4, 1)), (B, (-9, 2)), (C, (0, 1))])

BAD_FORMS = (
    None, (), 5, "form", (((),),), ((), (1, 1), 1), [(), (1, 1)], ([], (1, 1)), ((), 1), ((), [1, 1]), ((), (2, 2)), ((), (1, 0)), ((), (1, -1)),
    ((), (True, 1)), ((), (1, True)), ((), "1"), (None, (1, 1)), ((A,), (1, 1)), (((A,),), (1, 1)), (((A, (1, 1), 1),), (1, 1)),
    (([A, (1, 1)],), (1, 1)), (((A, [1, 1]),), (1, 1)), (((A, 1),), (1, 1)), (((A, (0, 1)),), (1, 1)), (((A, (2, 2)),), (1, 1)),
    (((["a", 0, 0], (1, 1)),), (1, 1)), (((("a", 0), (1, 1)),), (1, 1)), (((("a", False, 0), (1, 1)),), (1, 1)),
    (((("a", 0, True), (1, 1)),), (1, 1)), ((((7, 0, 0), (1, 1)),), (1, 1)), (((GROUND, (1, 1)),), (1, 1)),
    (((A, (1, 1)), (GROUND, (1, 1))), (1, 1)), (((B, (1, 1)), (A, (1, 1))), (1, 1)), (((A, (1, 1)), (A, (1, 1))), (1, 1)),
    (((("a", 1, 0), (1, 1)), (("a", 0, 9), (1, 1))), (1, 1)), (((("a", 0, 2), (1, 1)), (("a", 0, 1), (1, 1))), (1, 1)),
    (((A, (1, 1)), (C, (1, 1)), (B, (1, 1))), (1, 1)),
)
BAD_DIMENSIONS = (None, 1, (), [1, 0], (0, 0, 0, 0, 0), (10,), (-10, 0), (True,), (1.0,), ("1",), (1, None), "1", ((1,),))
BAD_RATIOS = (None, 1, (1,), (1, 1, 1), [1, 1], (2, 2), (1, 0), (1, -2), (True, 1), (1, True), ("1", 1), "1", (1.0, 1))


class Quantities(unittest.TestCase):
    def refused(self, *things):
        for thing in things:
            self.assertIs(is_quantity(thing), False, thing)

    def test_ordinary_ones(self):
        for thing in (
            SUM, PRODUCT, QUOTIENT, ("sum", BARE, (0, 0, 0, 0)), ("sum", spot_form(("ground", 0, 1), ("x", -5, -9)), (-9,)),
            ("product", BARE, BARE, (1, 1), (1, 2)), ("quotient", FORM, ((), (0, 1)), (1, 1), (0, 0, 9)),
            ("sum", spot_form(("a", 0, 0), ("a", 0, 1), ("a", 1, 0), ("b", -1, 0)), (1,)), ("sum", spot_form(("", 0, 0)), (1,)),
        ):
            self.assertIs(is_quantity(thing), True, thing)

    def test_no_tuple_no_word_another_number(self):
        self.refused(None, 5, "sum", (), [], ("sum",), list(SUM), list(PRODUCT), ("sum", FORM), SUM[1:], SUM + ((1,),), SUM[:2] + ((1, 1), (1,)))
        self.refused(PRODUCT[:-1], PRODUCT + ((1,),), QUOTIENT[:3], QUOTIENT[1:], ("product", FORM, (1, 0)), ("sum", FORM, FORM, (1, 1), (1, 0)))
        for word in (None, 5, "", "sums", "Sum", "within", "amount", True, ("sum",), ["sum"], b"sum"):
            self.refused(swapped(SUM, 0, word), swapped(PRODUCT, 0, word))

    def test_each_item(self):
        for form in BAD_FORMS:
            self.refused(swapped(SUM, 1, form))
            for whole in (PRODUCT, QUOTIENT):
                self.refused(swapped(whole, 1, form), swapped(whole, 2, form))
        for dimension in BAD_DIMENSIONS:
            self.refused(swapped(SUM, 2, dimension), swapped(PRODUCT, 4, dimension), swapped(QUOTIENT, 4, dimension))
        for number in BAD_RATIOS:
            self.refused(swapped(PRODUCT, 3, number), swapped(QUOTIENT, 3, number))

    def test_exponents_up_to_9(self):
        for exponent in (-9, 9):
            self.assertIs(is_quantity(("sum", FORM, (0, exponent))), True)
        self.refused(("sum", FORM, (0, 10)), ("sum", FORM, (-10, 0)))


class Claims(unittest.TestCase):
    def refused(self, *things):
        for thing in things:
            self.assertIs(is_claim(thing), False, thing)

    def test_ordinary_ones(self):
        for quantity in (SUM, PRODUCT, QUOTIENT):
            for thing in (
                ("within", quantity, (1, 2), (2, 3)), ("within", quantity, (1, 2), (1, 2)), ("within", quantity, (-1, 1), (0, 1)),
                ("passed", quantity, (1, 1), (2, 1)), ("passed", quantity, (2, 1), (1, 1)), ("failed", quantity, (-1, 3), (1, 3)),
                ("failed", quantity, (1, 3), (-1, 3)),
            ):
                self.assertIs(is_claim(thing), True, thing)

    def test_least_at_most_greatest_as_numbers(self):
        self.refused(("within", SUM, (2, 1), (1, 1)), ("within", SUM, (1, 2), (1, 3)), ("within", SUM, (0, 1), (-1, 9)))
        # As tuples the first one comes behind the second one.
        self.assertIs(is_claim(("within", SUM, (3, 10), (1, 2))), True)
        self.refused(("within", SUM, (1, 2), (3, 10)))

    def test_limits_differ(self):
        for word in ("passed", "failed"):
            self.refused((word, SUM, (1, 1), (1, 1)), (word, SUM, (-2, 3), (-2, 3)))

    def test_no_tuple_no_word_another_number(self):
        claim = ("within", SUM, (1, 1), (2, 1))
        self.refused(None, 7, "within", (), list(claim), claim[:3], claim + ((3, 1),), claim[1:], SUM, PRODUCT)
        for word in (None, True, "", "open", "told", "sum", ("within",), ["passed"], b"failed", "Passed"):
            self.refused(swapped(claim, 0, word))

    def test_each_item(self):
        for word in ("within", "passed", "failed"):
            claim = (word, PRODUCT, (1, 1), (2, 1))
            self.assertIs(is_claim(claim), True)
            for quantity in (None, (), FORM, list(PRODUCT), swapped(PRODUCT, 1, BAD_FORMS[-1]), swapped(PRODUCT, 4, ())):
                self.refused(swapped(claim, 1, quantity))
            for number in BAD_RATIOS:
                self.refused(swapped(claim, 2, number), swapped(claim, 3, number))


class Values(Case):
    def test_value_in(self):
        for quantity, value in (
            (SUM, (7, 2)), (("sum", BARE, (1,)), (3, 1)), (("sum", spot_form((A, (-1, 4)), (B, (2, 1))), (1,)), (-10, 1)), (PRODUCT, (-147, 4)),
            (QUOTIENT, (0, 1)), (("quotient", FORM, BARE, (6, 1), (1,)), (7, 1)), (("product", BARE, BARE, (0, 1), (1,)), (0, 1)),
            (("quotient", spot_form(A), spot_form(B), (1, 2), (0,)), (-4, 9)), (("quotient", spot_form(C), spot_form(A), (1, 2), (0,)), (0, 1)),
        ):
            self.assertEqual(value_in(WORLD, quantity), value)

    def test_none_where_the_divisor_is_0(self):
        for y in (spot_form(C), ((), (0, 1)), spot_form(A, rest=(-4, 1)), spot_form((A, (9, 8)), B)):
            for x in (FORM, BARE, ((), (0, 1))):
                for scale in ((1, 1), (0, 1)):
                    self.assertIsNone(value_in(WORLD, ("quotient", x, y, scale, (0,))))
        self.assertEqual(value_in(WORLD, ("product", FORM, spot_form(C), (1, 1), (0,))), (0, 1))

    def test_no_spot(self):
        far, near = ("z", 0, 0), ("a", 0, 1)
        for quantity, spot in (
            (("sum", spot_form(A, far), (1,)), far), (("sum", spot_form(near, far), (1,)), near), (("product", spot_form(far), spot_form(near), (1, 1), (1,)), far),
            (("product", spot_form(A), spot_form(near, far), (0, 1), (1,)), near), (("quotient", spot_form(far), ((), (0, 1)), (1, 1), (1,)), far),
            (("quotient", BARE, spot_form(B, far), (1, 1), (1,)), far),
        ):
            self.raises(NoSpot, lambda: value_in(WORLD, quantity), spot=spot)
            for claim in (("within", quantity, (0, 1), (1, 1)), ("passed", quantity, (0, 1), (1, 1)), ("failed", quantity, (0, 1), (1, 1))):
                self.raises(NoSpot, lambda: denies(WORLD, claim), spot=spot)


class GoodAndBad(unittest.TestCase):
    def test_at_below_and_above_both_limits(self):
        for G, N, value, good, bad in (
            ((1, 1), (2, 1), (0, 1), True, False), ((1, 1), (2, 1), (1, 1), True, False), ((1, 1), (2, 1), (3, 2), False, False),
            ((1, 1), (2, 1), (2, 1), False, True), ((1, 1), (2, 1), (9, 1), False, True), ((2, 1), (1, 1), (0, 1), False, True),
            ((2, 1), (1, 1), (1, 1), False, True), ((2, 1), (1, 1), (3, 2), False, False), ((2, 1), (1, 1), (2, 1), True, False),
            ((2, 1), (1, 1), (9, 1), True, False), ((3, 10), (1, 2), (2, 5), False, False), ((3, 10), (1, 2), (1, 3), False, False),
            ((3, 10), (1, 2), (3, 11), True, False), ((3, 10), (1, 2), (5, 9), False, True), ((-1, 2), (-1, 3), (-1, 2), True, False),
        ):
            self.assertIs(is_good(value, G, N), good, (value, G, N))
            self.assertIs(is_bad(value, G, N), bad, (value, G, N))

    def test_as_told(self):
        rng = random.Random(21)
        for _ in range(400):
            value, G, N = [Fraction(rng.randint(-4, 4), rng.randint(1, 3)) for _ in range(3)]
            if G == N:
                continue
            told = [number.as_integer_ratio() for number in (value, G, N)]
            self.assertIs(is_good(*told), value <= G if G < N else value >= G)
            self.assertIs(is_bad(*told), value >= N if G < N else value <= N)


class Denials(unittest.TestCase):
    SIX = ("sum", spot_form(A, rest=(2, 1)), (1,))

    def test_within(self):
        for least, greatest, denied in (
            ((6, 1), (6, 1), False), ((0, 1), (6, 1), False), ((6, 1), (7, 1), False), ((0, 1), (59, 10), True), ((61, 10), (9, 1), True),
            ((7, 1), (7, 1), True), ((11, 2), (13, 2), False), ((-9, 1), (-1, 1), True),
        ):
            self.assertIs(denies(WORLD, ("within", self.SIX, least, greatest)), denied)

    def test_passed_and_failed(self):
        for G, N, passed, failed in (
            ((6, 1), (7, 1), False, True), ((5, 1), (6, 1), True, False), ((5, 1), (7, 1), False, False), ((7, 1), (8, 1), False, True),
            ((4, 1), (5, 1), True, False), ((6, 1), (5, 1), False, True), ((7, 1), (6, 1), True, False), ((7, 1), (5, 1), False, False),
            ((8, 1), (7, 1), True, False), ((5, 1), (4, 1), False, True),
        ):
            self.assertIs(denies(WORLD, ("passed", self.SIX, G, N)), passed)
            self.assertIs(denies(WORLD, ("failed", self.SIX, G, N)), failed)

    def test_products_and_quotients(self):
        product = ("product", spot_form(A), spot_form(B), (2, 1), (2,))
        self.assertIs(denies(WORLD, ("within", product, (-36, 1), (-36, 1))), False)
        self.assertIs(denies(WORLD, ("within", product, (-35, 1), (0, 1))), True)
        quotient = ("quotient", spot_form(A), spot_form(B), (9, 1), (0,))
        self.assertIs(denies(WORLD, ("failed", quotient, (-9, 1), (-8, 1))), False)
        self.assertIs(denies(WORLD, ("failed", quotient, (-8, 1), (-7, 1))), True)

    def test_no_value(self):
        quotient = ("quotient", spot_form(A), spot_form(C), (0, 1), (0,))
        for word in ("within", "passed", "failed"):
            self.assertIs(denies(WORLD, (word, quotient, (-100, 1), (100, 1))), True)


if __name__ == "__main__":
    unittest.main()
