"""[3] dimensions, [4] product texts and their one form."""

import itertools
import unittest

from ellwarden.dims import base_dimension, divided, is_dimension, multiplied, read_product, write_product
from ellwarden.errors import TooHigh, Unknown

NAMES = ("mm", "s", "kg")


class Dimensions(unittest.TestCase):
    def test_dimensions(self):
        for thing, many in (((0,), 1), ((9,), 1), ((-9,), 1), ((1, -2), 2), ((0, 0, 0), 3), ((9, -9, 9, -9), 4)):
            self.assertIs(is_dimension(thing, many), True)

    def test_every_exponent(self):
        for exponent in range(-12, 13):
            self.assertIs(is_dimension((exponent,), 1), -9 <= exponent <= 9)
            self.assertIs(is_dimension((0, exponent, 0), 3), -9 <= exponent <= 9)

    def test_what_is_none(self):
        for thing in (
            [0, 0], (0,), (0, 0, 0), (), (True, 0), (0, False), (10, 0), (0, -10), ("1", 0), (1.0, 0), (None, 0), None, 2, "00",
            ((0, 0),), {0: 0, 1: 1},
        ):
            self.assertIs(is_dimension(thing, 2), False, repr(thing))

    def test_products_and_quotients(self):
        self.assertEqual(multiplied((1, -2), (3, 2)), (4, 0))
        self.assertEqual(divided((1, -2), (3, 2)), (-2, -4))
        self.assertEqual(multiplied((9, -9), (0, 0)), (9, -9))
        self.assertEqual(divided((4,), (-5,)), (9,))
        self.assertIs(type(multiplied((1,), (1,))), tuple)

    def test_too_high_tells_what_would_come(self):
        for a in range(-9, 10):
            for b in range(-9, 10):
                for call, whole in ((multiplied, a + b), (divided, a - b)):
                    if -9 <= whole <= 9:
                        self.assertEqual(call((1, a), (0, b)), (1, whole))
                        continue
                    with self.assertRaises(TooHigh) as caught:
                        call((1, a), (0, b))
                    self.assertEqual(caught.exception.dimension, (1, whole))

    def test_too_high_tells_all_exponents(self):
        with self.assertRaises(TooHigh) as caught:
            multiplied((9, -9, 1), (9, -9, 1))
        self.assertEqual(caught.exception.dimension, (18, -18, 2))
        with self.assertRaises(TooHigh) as caught:
            divided((9, 0, 1), (-1, 0, 1))
        self.assertEqual(caught.exception.dimension, (10, 0, 0))

    def test_base_dimension(self):
        for bases in (("length", "mass", "time"), ["length", "mass", "time"]):
            self.assertEqual(base_dimension(bases, "length"), (1, 0, 0))
            self.assertEqual(base_dimension(bases, "mass"), (0, 1, 0))
            self.assertEqual(base_dimension(bases, "time"), (0, 0, 1))
            for name in ("mm", "", "lengt", None, True, 0):
                with self.assertRaises(Unknown) as caught:
                    base_dimension(bases, name)
                self.assertEqual(caught.exception.name, name)
        self.assertEqual(base_dimension(("time",), "time"), (1,))


class Reading(unittest.TestCase):
    def read(self, text):
        return read_product(text, NAMES)

    def test_terms(self):
        for text, exponents in (
            ("mm", (1, 0, 0)), ("s", (0, 1, 0)), ("mm*s", (1, 1, 0)), ("mm/s", (1, -1, 0)), ("mm^2", (2, 0, 0)),
            ("mm^-2", (-2, 0, 0)), ("s/mm^2", (-2, 1, 0)), ("s/mm^-2", (2, 1, 0)), ("mm/s*s^-1", (1, -2, 0)),
            ("kg*mm/s^2", (1, -2, 1)), ("kg/s/mm*s", (-1, 0, 1)), ("kg/s*mm", (1, -1, 1)),
        ):
            self.assertEqual(self.read(text), exponents, text)
        self.assertIs(type(self.read("mm")), tuple)
        self.assertEqual(read_product("mm/s", ["s", "mm"]), (-1, 1))

    def test_one_in_front_alone_and_elsewhere(self):
        for text, exponents in (("1", (0, 0, 0)), ("1/s", (0, -1, 0)), ("1*mm", (1, 0, 0)), ("1/s*mm/kg", (1, -1, -1))):
            self.assertEqual(self.read(text), exponents, text)
        for text in ("mm*1", "mm/1", "1*1", "1/1", "11", "1mm", "mm1", "1^2", "1^1", "1^-1", "0", "2", "-1", "1*", "1/", "01"):
            self.assertIsNone(self.read(text), text)

    def test_every_exponent(self):
        for exponent in range(-12, 13):
            good = exponent != 0 and -9 <= exponent <= 9
            self.assertEqual(self.read(f"mm^{exponent}"), (exponent, 0, 0) if good else None)
            self.assertEqual(self.read(f"s/mm^{exponent}"), (-exponent, 1, 0) if good else None)

    def test_exponents_that_are_none(self):
        for exponent in (
            "", "0", "-0", "00", "01", "-01", "+1", "+", "-", "--1", "1.0", " 1", "1 ", "- 1", "x", "s", "10", "-10", "^1", "1^1",
            "\u00b2", "\u0661", "1_", "1\n",
        ):
            self.assertIsNone(self.read("mm^" + exponent), exponent)
            self.assertIsNone(self.read("mm^" + exponent + "*s"), exponent)

    def test_signs_and_blanks(self):
        for text in (
            "", " ", "*", "/", "mm*", "*mm", "/mm", "mm/", "mm**s", "mm//s", "mm*/s", "mm/*s", "mm s", "mm *s", "mm* s", " mm",
            "mm ", "mm\n", "mm+s", "mm-s", "mm.s", "(mm)", "mm^2^2", "^2", "^", "MM", "mM", "-mm", "1 /s", "mm;s", "mm^(2)",
        ):
            self.assertIsNone(self.read(text), repr(text))

    def test_names_that_are_not_there(self):
        for text in ("m", "mmm", "g", "mm*g", "g/mm", "kgs", "mm/x^2", "unit"):
            self.assertIsNone(self.read(text), text)
        self.assertIsNone(read_product("mm", ()))
        self.assertEqual(read_product("1", ()), ())

    def test_names_several_times(self):
        for text, exponents in (
            ("mm*mm", (2, 0, 0)), ("mm/mm", (0, 0, 0)), ("mm*s/mm", (0, 1, 0)), ("mm^3/mm^2*mm^-1", (0, 0, 0)),
            ("mm^9*mm^9/mm^9", (9, 0, 0)), ("mm^9*mm^9*mm^-9", (9, 0, 0)), ("1/mm^9/mm^9*mm^9", (-9, 0, 0)),
            ("mm^5*mm^4", (9, 0, 0)), ("s/mm^5/mm^4", (-9, 1, 0)), ("mm^9*s*mm*s/mm", (9, 2, 0)),
        ):
            self.assertEqual(self.read(text), exponents, text)

    def test_sums_beyond_9(self):
        for text in ("mm^9*mm", "mm^5*mm^5", "s/mm^9/mm", "mm^-9/mm", "mm*s^9*s", "1/kg^5/kg^5", "mm^9*mm^9"):
            self.assertIsNone(self.read(text), text)

    def test_200_signs_and_201(self):
        whole = "mm/mm" + "*mm/mm" * 32 + "*s"
        self.assertEqual(len(whole), 199)
        text = whole[:-1] + "kg"
        self.assertEqual(len(text), 200)
        self.assertEqual(self.read(text), (0, 0, 1))
        for longer in (text + "g", whole + "^2", "mm/mm" + "*mm/mm" * 33):
            self.assertIsNone(self.read(longer))
        longer = "s" + text
        self.assertEqual(len(longer), 201)
        self.assertIsNone(read_product(longer, NAMES + ("smm",)))
        self.assertEqual(read_product(longer[:-2] + "s", NAMES + ("smm",)), (-1, 1, 0, 1))

    def test_what_is_no_string(self):
        for thing in (None, 1, True, ("mm",), ["mm"], b"mm"):
            self.assertIsNone(self.read(thing))


class Writing(unittest.TestCase):
    def test_the_one_form(self):
        for exponents, text in (
            ((0, 0, 0), "1"), ((1, 0, 0), "mm"), ((0, 1, 0), "s"), ((2, 0, 0), "mm^2"), ((9, 0, 0), "mm^9"), ((-1, 0, 0), "1/mm"),
            ((-2, 0, 0), "1/mm^2"), ((1, 1, 1), "mm*s*kg"), ((1, -1, 0), "mm/s"), ((-1, 1, 0), "s/mm"), ((1, -2, 1), "mm*kg/s^2"),
            ((-1, -1, -1), "1/mm/s/kg"), ((-9, 3, -1), "s^3/mm^9/kg"), ((0, -3, 2), "kg^2/s^3"),
        ):
            self.assertEqual(write_product(NAMES, exponents), text)
            self.assertEqual(write_product(list(NAMES), exponents), text)

    def test_the_order_is_that_of_the_names(self):
        self.assertEqual(write_product(("s", "mm"), (1, 1)), "s*mm")
        self.assertEqual(write_product(("mm", "s"), (1, 1)), "mm*s")
        self.assertEqual(write_product(("s", "mm", "kg"), (-1, 1, -1)), "mm/s/kg")

    def test_each_mixture_is_read_back(self):
        for exponents in itertools.product((-9, -2, -1, 0, 1, 2, 9), repeat=3):
            text = write_product(NAMES, exponents)
            self.assertEqual(read_product(text, NAMES), exponents, text)
            above = [name for name, exponent in zip(NAMES, exponents) if exponent > 0]
            self.assertEqual(text.startswith("1"), not above)
            self.assertNotIn("^1", text)
            self.assertNotIn("-", text)


if __name__ == "__main__":
    unittest.main()
