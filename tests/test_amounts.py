"""[5] amounts: sums, differences, products, quotients, and what is compared."""

import unittest

from ellwarden.amounts import Amount
from ellwarden.errors import Mixed, Nought, TooHigh
from samples import Case

LENGTH = (1, 0)
TIME = (0, 1)


def amount(n, d=1, dimension=LENGTH):
    return Amount((n, d), dimension)


class Amounts(Case):
    def told(self, made, number, dimension):
        self.assertIsInstance(made, Amount)
        self.assertEqual((made.number, made.dimension), (number, dimension))

    def test_attributes(self):
        self.told(Amount((3, 2), (1, -2)), (3, 2), (1, -2))

    def test_bare(self):
        for many in range(1, 5):
            self.told(Amount.bare((-5, 3), many), (-5, 3), (0,) * many)

    def test_sums_and_differences(self):
        self.told(amount(1, 2) + amount(1, 3), (5, 6), LENGTH)
        self.told(amount(1, 2) - amount(1, 3), (1, 6), LENGTH)
        self.told(amount(1, 3) - amount(1, 3), (0, 1), LENGTH)
        self.told(amount(1, 2, TIME) + amount(1, 2, TIME), (1, 1), TIME)
        self.told(amount(1, 3) - amount(1, 2), (-1, 6), LENGTH)

    def test_products_and_quotients(self):
        self.told(amount(2, 3) * amount(3, 5, TIME), (2, 5), (1, 1))
        self.told(amount(2, 3) // amount(3, 5, TIME), (10, 9), (1, -1))
        self.told(amount(2, 3) // amount(2, 3), (1, 1), (0, 0))
        self.told(amount(7) // amount(-2), (-7, 2), (0, 0))
        self.told(amount(0) // amount(-2), (0, 1), (0, 0))
        self.told(amount(0) * amount(5), (0, 1), (2, 0))
        self.told(Amount.bare((2, 1), 2) * amount(5, 3), (10, 3), LENGTH)

    def test_negated(self):
        self.told(-amount(2, 3), (-2, 3), LENGTH)
        self.told(-amount(-2, 3, TIME), (2, 3), TIME)
        self.told(-amount(0), (0, 1), LENGTH)

    def test_operands_stay_as_they_are(self):
        a, b = amount(2, 3), amount(5)
        for made in (a + b, a - b, a * b, a // b, -a):
            self.assertIsNot(made, a)
        self.told(a, (2, 3), LENGTH)
        self.told(b, (5, 1), LENGTH)

    def test_mixed_tells_both_dimensions_in_order(self):
        a, b = amount(1), amount(2, 1, TIME)
        for call, left, right in (
            (lambda: a + b, LENGTH, TIME), (lambda: b + a, TIME, LENGTH), (lambda: a - b, LENGTH, TIME),
            (lambda: b - a, TIME, LENGTH), (lambda: a.compared(b), LENGTH, TIME), (lambda: b.compared(a), TIME, LENGTH),
            (lambda: a + Amount.bare((0, 1), 2), LENGTH, (0, 0)),
        ):
            self.raises(Mixed, call, left=left, right=right)

    def test_too_high_tells_the_dimension(self):
        high, low = amount(2, 1, (9, -9)), amount(3, 1, (1, -1))
        self.raises(TooHigh, lambda: high * low, dimension=(10, -10))
        self.raises(TooHigh, lambda: low * high, dimension=(10, -10))
        self.raises(TooHigh, lambda: high // amount(1, 1, (-1, 0)), dimension=(10, -9))
        self.raises(TooHigh, lambda: amount(1, 1, (-9, 0)) // low, dimension=(-10, 1))
        self.told(high // low, (2, 3), (8, -8))
        self.told(amount(1, 1, (8, -8)) * low, (3, 1), (9, -9))

    def test_nought_tells_the_left_number_ahead_of_too_high(self):
        self.raises(Nought, lambda: amount(5, 3) // amount(0, 1, TIME), number=(5, 3))
        self.raises(Nought, lambda: amount(0) // amount(0), number=(0, 1))
        self.raises(Nought, lambda: amount(5, 3, (9, 0)) // amount(0, 1, (-9, 0)), number=(5, 3))

    def test_compared(self):
        self.assertEqual(amount(1, 3).compared(amount(1, 2)), -1)
        self.assertEqual(amount(1, 2).compared(amount(1, 3)), 1)
        self.assertEqual(amount(1, 2).compared(amount(1, 2)), 0)
        self.assertEqual(amount(-1, 2).compared(amount(-1, 3)), -1)
        self.assertEqual(amount(2).compared(amount(10)), -1)

    def test_equal(self):
        self.assertEqual(amount(1, 2), amount(1, 2))
        self.assertNotEqual(amount(1, 2), amount(1, 3))
        self.assertNotEqual(amount(1), amount(1, 1, TIME))
        self.assertNotEqual(Amount.bare((1, 1), 1), Amount.bare((1, 1), 2))
        for thing in (None, (1, 1), ((1, 1), LENGTH), 1, "1", [amount(1)]):
            self.assertIs(amount(1) == thing, False)
            self.assertIs(amount(1) != thing, True)


if __name__ == "__main__":
    unittest.main()
