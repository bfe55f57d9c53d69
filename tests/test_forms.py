"""[18] forms and plain forms."""

import random
import unittest

from ellwarden.errors import BadForm, NoSpot
from ellwarden.forms import Form
from ellwarden.worlds import GROUND, World
from samples import Case
from brute import fraction, told

A, B, C = ("a", 0, 0), ("b", 1, 2), ("c", -3, 7)
WORLD = World([(GROUND, (0, 1)), (A, (4, 1)), (B, (-9, 2)), (C, (0, 1))])
BAD_PAIRS = (
    None, 5, "ab", (), (A,), (A, (1, 1), 1), [A, (1, 1)], (list(A), (1, 1)), (("a", 0), (1, 1)), (("a", True, 0), (1, 1)), ((1, 0, 0), (1, 1)), ("a", (1, 1)), (A, [1, 1]),
    (A, 1), (A, None), (A, (2, 2)), (A, (1, 0)), (A, (1, -1)), (A, (True, 1)), (A, (1, True)), (A, "1"), ((1, 1), A), (("a", 0, 0.0), (1, 1)),
)
BAD_RATIOS = (None, 1, 0, (1,), [0, 1], (2, 2), (1, 0), (0, -1), (True, 1), "0", ())


class Making(Case):
    def test_plain_forms(self):
        for terms, rest, plain in (
            ((), (0, 1), ((), (0, 1))), ([], (-3, 2), ((), (-3, 2))), ([(A, (1, 1))], (0, 1), (((A, (1, 1)),), (0, 1))),
            ([(C, (1, 2)), (A, (-1, 1)), (B, (5, 1))], (1, 1), (((A, (-1, 1)), (B, (5, 1)), (C, (1, 2))), (1, 1))),
            ([(B, (1, 2)), (A, (1, 1)), (B, (1, 3))], (0, 1), (((A, (1, 1)), (B, (5, 6))), (0, 1))), ([(A, (1, 2)), (A, (-1, 2))], (0, 1), ((), (0, 1))),
            ([(A, (0, 1)), (B, (1, 1))], (0, 1), (((B, (1, 1)),), (0, 1))), ([(GROUND, (7, 1)), (A, (1, 1)), (GROUND, (1, 1))], (2, 1), (((A, (1, 1)),), (2, 1))),
            ([(("a", 2, 0), (1, 1)), (("a", 1, 9), (1, 1)), (("a", 1, 10), (1, 1))], (0, 1), (((("a", 1, 9), (1, 1)), (("a", 1, 10), (1, 1)), (("a", 2, 0), (1, 1))), (0, 1))),
            ([(("ground", 0, 1), (1, 1))], (0, 1), (((("ground", 0, 1), (1, 1)),), (0, 1))),
        ):
            form = Form(terms, rest)
            self.assertEqual((form.terms, form.rest), plain)
            self.assertEqual(form.plain(), plain)
            self.assertIs(type(form.terms), tuple)
            self.assertEqual(Form(tuple(terms), rest), form)
        self.assertEqual(Form().plain(), ((), (0, 1)))
        self.assertEqual(Form([(A, (1, 1))]).rest, (0, 1))
        self.assertEqual(Form(rest=(5, 1)).plain(), ((), (5, 1)))

    def test_of(self):
        self.assertEqual(Form.of(A).plain(), (((A, (1, 1)),), (0, 1)))
        self.assertEqual(Form.of(GROUND), Form())

    def test_bad_pairs(self):
        for pair in BAD_PAIRS:
            self.raises(BadForm, lambda: Form([pair]), place=0)
            self.raises(BadForm, lambda: Form((pair, None)), place=0)
            self.raises(BadForm, lambda: Form([(A, (1, 1)), (GROUND, (1, 1)), pair, None], None), place=2)

    def test_bad_rests(self):
        for rest in BAD_RATIOS:
            self.raises(BadForm, lambda: Form([], rest), place=-1)
            self.raises(BadForm, lambda: Form([(A, (1, 1))], rest), place=-1)
            self.raises(BadForm, lambda: Form([(A, (1, 1)), None], rest), place=1)

    def test_the_row_of_the_caller_is_copied(self):
        row = [(A, (1, 1))]
        form = Form(row)
        row.append((B, (1, 1)))
        self.assertEqual(form, Form.of(A))
        self.assertEqual(row, [(A, (1, 1)), (B, (1, 1))])


class Reckoning(Case):
    X = Form([(A, (1, 2)), (B, (3, 1))], (1, 1))
    Y = Form([(B, (-3, 1)), (C, (2, 5))], (-1, 3))

    def test_sums(self):
        self.assertEqual((self.X + self.Y).plain(), (((A, (1, 2)), (C, (2, 5))), (2, 3)))
        self.assertEqual((self.X - self.Y).plain(), (((A, (1, 2)), (B, (6, 1)), (C, (-2, 5))), (4, 3)))
        self.assertEqual((self.X - self.X).plain(), ((), (0, 1)))
        self.assertEqual((-self.Y).plain(), (((B, (3, 1)), (C, (-2, 5))), (1, 3)))

    def test_times_a_ratio(self):
        self.assertEqual((self.X * (-2, 3)).plain(), (((A, (-1, 3)), (B, (-2, 1))), (-2, 3)))
        self.assertEqual((self.X * (0, 1)).plain(), ((), (0, 1)))
        self.assertEqual(self.X * (1, 1), self.X)

    def test_nothing_is_changed(self):
        kept = (self.X.plain(), self.Y.plain())
        self.X + self.Y, self.X - self.Y, -self.X, self.X * (5, 1), self.X == self.Y
        self.assertEqual((self.X.plain(), self.Y.plain()), kept)

    def test_equal_by_plain_forms(self):
        self.assertTrue(Form([(A, (1, 2)), (B, (1, 1)), (A, (1, 2))]) == Form([(B, (1, 1)), (A, (1, 1)), (GROUND, (4, 1)), (C, (0, 1))]))
        self.assertFalse(Form.of(A) != Form([(A, (1, 1))]))
        for other in (Form.of(B), Form([(A, (1, 1))], (1, 1)), Form([(A, (2, 1))]), Form(), Form.of(A).plain(), None, A):
            self.assertFalse(Form.of(A) == other)
            self.assertTrue(Form.of(A) != other)

    def test_value(self):
        self.assertEqual(self.X(WORLD), (-21, 2))
        self.assertEqual(self.Y(WORLD), (79, 6))
        self.assertEqual(Form((), (7, 3))(World([(GROUND, (0, 1))])), (7, 3))
        self.assertEqual(Form.of(GROUND)(WORLD), (0, 1))

    def test_no_spot(self):
        far = ("z", 0, 0)
        self.raises(NoSpot, lambda: Form([(far, (1, 1)), (A, (1, 1)), (("b", 0, 0), (1, 1))])(WORLD), spot=("b", 0, 0))
        self.raises(NoSpot, lambda: Form.of(far)(WORLD), spot=far)
        # A spot whose factors come to 0 is not in the form.
        self.assertEqual((Form.of(far) - Form.of(far))(WORLD), (0, 1))

    def test_as_fractions(self):
        rng = random.Random(18)

        def made():
            return Form([(rng.choice((A, B, C, GROUND)), told(fraction((rng.randint(-9, 9), rng.randint(1, 5))))) for _ in range(rng.randint(0, 6))], (rng.randint(-9, 9), 1))

        for _ in range(200):
            x, y, factor = made(), made(), told(fraction((rng.randint(-9, 9), rng.randint(1, 5))))
            left, right = fraction(x(WORLD)), fraction(y(WORLD))
            for form, value in ((x + y, left + right), (x - y, left - right), (-x, -left), (x * factor, left * fraction(factor))):
                self.assertEqual(form(WORLD), told(value))
                self.assertEqual(list(form.terms), sorted(form.terms))
                self.assertEqual(len({spot for spot, _ in form.terms}), len(form.terms))
                self.assertNotIn((0, 1), [number for _, number in form.terms])


if __name__ == "__main__":
    unittest.main()
