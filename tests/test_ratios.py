"""[2] ratios, what is reckoned with them, and their texts."""

import unittest
from fractions import Fraction

from ellwarden.errors import BadRatio, Nought
from ellwarden.ratios import compare, is_ratio, minus, over, plus, ratio, read_ratio, times, write_ratio

NUMBERS = [Fraction(n, d) for n in range(-7, 8) for d in range(1, 7)]
GREAT = 10 ** 400 - 1
SAMPLES = sorted(set(NUMBERS)) + [Fraction(GREAT, 10 ** 399), Fraction(-GREAT, 10 ** 399 + 1), Fraction(1, GREAT)]


def told(number):
    return (number.numerator, number.denominator)


class Making(unittest.TestCase):
    def test_lowest_terms_with_every_sign(self):
        for n in range(-12, 13):
            for d in list(range(-12, 0)) + list(range(1, 13)):
                self.assertEqual(ratio(n, d), told(Fraction(n, d)), (n, d))

    def test_the_divisor_is_1_when_left_out(self):
        self.assertEqual(ratio(7), (7, 1))
        self.assertEqual(ratio(-7), (-7, 1))
        self.assertEqual(ratio(0), (0, 1))
        self.assertEqual(ratio(6, d=4), (3, 2))

    def test_nought_and_great_numbers(self):
        self.assertEqual(ratio(0, -5), (0, 1))
        self.assertEqual(ratio(GREAT, -GREAT), (-1, 1))
        self.assertEqual(ratio(GREAT * 7, 7 * (GREAT - 1)), (GREAT, GREAT - 1))

    def test_nought_tells_the_number_above(self):
        for n in (5, 0, -3, GREAT):
            with self.assertRaises(Nought) as caught:
                ratio(n, 0)
            self.assertEqual(caught.exception.number, n)

    def test_the_ratio_is_a_tuple_of_integers(self):
        for made in (ratio(2, 4), plus((1, 2), (1, 2)), times((1, 2), (2, 1)), read_ratio("1/2")):
            self.assertIs(type(made), tuple)
            self.assertEqual([type(item) for item in made], [int, int])


class Kinds(unittest.TestCase):
    def test_ratios(self):
        for number in SAMPLES:
            self.assertIs(is_ratio(told(number)), True)

    def test_what_is_none(self):
        for thing in (
            (2, 4), (0, 2), (0, 0), (1, 0), (1, -1), (-1, -2), (6, 3), (-2, 2), (0, -1),
            [1, 2], (1,), (1, 2, 3), (), "1/2", 1, None, True, (True, 1), (1, True), (False, 1), (True, True),
            ("1", 1), (1, "1"), (1.0, 1), (1, 1.0), ((1, 1), 1), (1, None), {1: 1, 2: 2}, (10 ** 399, 10),
        ):
            self.assertIs(is_ratio(thing), False, repr(thing))


class Reckoning(unittest.TestCase):
    def test_sums_differences_products(self):
        for a in SAMPLES:
            for b in SAMPLES:
                self.assertEqual(plus(told(a), told(b)), told(a + b))
                self.assertEqual(minus(told(a), told(b)), told(a - b))
                self.assertEqual(times(told(a), told(b)), told(a * b))

    def test_quotients(self):
        for a in SAMPLES:
            for b in SAMPLES:
                if b != 0:
                    self.assertEqual(over(told(a), told(b)), told(a / b))

    def test_nought_of_over_tells_the_left_ratio(self):
        for a in ((3, 2), (0, 1), (-1, 7)):
            with self.assertRaises(Nought) as caught:
                over(a, (0, 1))
            self.assertEqual(caught.exception.number, a)

    def test_compared_as_numbers(self):
        for a in SAMPLES:
            for b in SAMPLES:
                self.assertEqual(compare(told(a), told(b)), (a > b) - (a < b))
        self.assertEqual(compare((1, 2), (1, 3)), 1)
        self.assertEqual(compare((2, 1), (5, 3)), 1)


class Texts(unittest.TestCase):
    def refused(self, text):
        with self.assertRaises(BadRatio, msg=repr(text)) as caught:
            read_ratio(text)
        self.assertEqual(caught.exception.text, text)

    def test_written(self):
        for a, text in (
            ((0, 1), "0"), ((1, 1), "1"), ((-1, 1), "-1"), ((6, 5), "6/5"), ((-6, 5), "-6/5"), ((1, 10), "1/10"),
            ((1000, 1), "1000"), ((-1, 1000), "-1/1000"),
        ):
            self.assertEqual(write_ratio(a), text)
            self.assertEqual(read_ratio(text), a)

    def test_each_sample_is_read_back(self):
        for number in SAMPLES:
            self.assertEqual(write_ratio(told(number)), str(number))
            self.assertEqual(read_ratio(str(number)), told(number))

    def test_400_digits_and_401(self):
        most = "7" * 400
        self.assertEqual(read_ratio(most), (int(most), 1))
        self.assertEqual(read_ratio("-" + most), (-int(most), 1))
        self.assertEqual(read_ratio("1/" + most), (1, int(most)))
        self.assertEqual(read_ratio("-" + most + "/1" + "0" * 399), (-int(most), 10 ** 399))
        self.assertEqual(write_ratio((-int(most), 10 ** 399)), "-" + most + "/1" + "0" * 399)
        for text in (most + "7", "-" + most + "7", "1/" + most + "7", most + "7/" + most, "1" + "0" * 400):
            self.refused(text)

    def test_leading_zeros_signs_and_blanks(self):
        for text in (
            "00", "01", "-01", "1/02", "01/2", "0/1", "0/2", "-0", "-0/1", "+1", "+0", "1/+2", "1/-2", "--1", "-", "",
            " ", " 1", "1 ", "1 /2", "1/ 2", "- 1", "1\n", "\n", "1/2\n", "1_000", "1,000",
        ):
            self.refused(text)

    def test_divisors_that_are_not_written(self):
        for text in ("1/1", "5/1", "-5/1", "1/0", "0/0", "-1/0", "1/", "/2", "/", "1//2", "1/2/3", "2/4", "6/3", "-3/9"):
            self.refused(text)

    def test_other_signs_and_digits(self):
        for text in ("a", "1a", "1.5", "1e3", "0x1", "\u0661", "\u00b2", "1/\u0662", "\uff11", "1\u2044", "one", "1:2"):
            self.refused(text)

    def test_what_is_no_string(self):
        for thing in (1, None, True, (1, 2), ["1"], b"1", 1.5):
            self.refused(thing)


if __name__ == "__main__":
    unittest.main()
