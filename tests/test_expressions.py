"""[24] kinds, dimensions and quantities of expressions; [18], [20] plain forms and quantities."""

import random
import unittest
from fractions import Fraction

from ellwarden.errors import BadStep, Nobody
from ellwarden.expressions import kind_of, quantity_of
from samples import grains, house, procedure, sized

ONE, TWO, BEAT = sized("one"), sized("two"), sized("beat")
TOOL = ("offset", "tool", 5)
MM, SECOND, BARE = grains(3, "mm"), grains(2, "s"), grains((5, 2), "1")
MAIN = procedure()
HOUSE = house(MAIN)
HANDED = ("bore", "slot", "beat")
DEVICES = ("dial", "clock")
BORE, SLOT, PULSE, DIAL = ("bore", 0, 1), ("slot", 0, 1), ("beat", 0, 1), ("dial", 1, 1)

# For each kind an expression with the dimension length.
OF_KIND = {
    "constant": MM,
    "sum": ONE,
    "product": ("times", ONE, ("over", ONE, MM)),
    "quotient": ("over", ("times", ONE, MM), TWO),
}
LET = {
    "plus": {("constant", "constant"): "constant", ("constant", "sum"): "sum", ("sum", "constant"): "sum", ("sum", "sum"): "sum"},
    "times": {
        ("constant", "constant"): "constant", ("constant", "sum"): "sum", ("sum", "constant"): "sum", ("sum", "sum"): "product",
        ("constant", "product"): "product", ("product", "constant"): "product", ("constant", "quotient"): "quotient",
        ("quotient", "constant"): "quotient",
    },
    "over": {
        ("constant", "constant"): "constant", ("sum", "constant"): "sum", ("constant", "sum"): "quotient", ("sum", "sum"): "quotient",
        ("product", "constant"): "product", ("quotient", "constant"): "quotient",
    },
}
LET["minus"] = LET["plus"]


def kind(expression, names=()):
    return kind_of(HOUSE, MAIN, expression, names)


def quantity(expression, day=1, features=HANDED, devices=DEVICES, names=()):
    return quantity_of(HOUSE, MAIN, expression, day, features, devices, names)


def form(*terms, rest=(0, 1)):
    return (tuple((spot, factor if isinstance(factor, tuple) else (factor, 1)) for spot, factor in terms), rest)


class Kinds(unittest.TestCase):
    def test_leaves(self):
        for expression, told in (
            (MM, ("constant", (1, 0))), (SECOND, ("constant", (0, 1))), (grains(1, "mm/s^2"), ("constant", (1, -2))),
            (ONE, ("sum", (1, 0))), (BEAT, ("sum", (0, 1))), (TOOL, ("sum", (1, 0))), (("offset", "timer", -3), ("sum", (0, 1))),
        ):
            self.assertEqual(kind(expression), told)
            self.assertIs(type(kind(expression)), tuple)

    def test_each_pairing_that_is_let(self):
        for word in LET:
            for (left, right), made in LET[word].items():
                expression = (word, OF_KIND[left], OF_KIND[right])
                dimension = {"plus": (1, 0), "minus": (1, 0), "times": (2, 0), "over": (0, 0)}[word]
                self.assertEqual(kind(expression), (made, dimension), expression)
                named = (word, ("name", "a"), ("name", "b"))
                self.assertEqual(kind(named, [("a", OF_KIND[left]), ("b", OF_KIND[right])]), (made, dimension))

    def test_each_pairing_is_judged_so(self):
        """In a charter just the pairings told are let."""
        for word in LET:
            for left in OF_KIND:
                for right in OF_KIND:
                    body = (("let", "a", (word, OF_KIND[left], OF_KIND[right])),)
                    if (left, right) in LET[word]:
                        self.assertEqual(house(procedure(*body))["main"][3], body)
                        continue
                    with self.assertRaises(BadStep) as caught:
                        house(procedure(*body))
                    self.assertEqual((caught.exception.kind, caught.exception.about), ("tangled", word))

    def test_dimensions(self):
        for expression, told in (
            (("times", ONE, BEAT), ("product", (1, 1))), (("over", ONE, BEAT), ("quotient", (1, -1))),
            (("over", SECOND, ("plus", ONE, TWO)), ("quotient", (-1, 1))), (("over", ONE, SECOND), ("sum", (1, -1))),
            (("times", SECOND, ("over", ONE, BEAT)), ("quotient", (1, 0))), (("over", ("times", ONE, BEAT), grains(1, "s^2")), ("product", (1, -1))),
            (("minus", ONE, ONE), ("sum", (1, 0))), (("times", SECOND, SECOND), ("constant", (0, 2))),
        ):
            self.assertEqual(kind(expression), told)

    def test_names_of_names(self):
        names = [("a", ONE), ("b", ("plus", ("name", "a"), TWO)), ("c", ("times", ("name", "b"), ("name", "a")))]
        self.assertEqual(kind(("name", "a"), names), ("sum", (1, 0)))
        self.assertEqual(kind(("name", "c"), tuple(names)), ("product", (2, 0)))
        self.assertEqual(kind(("over", ("name", "c"), MM), names), ("product", (1, 0)))
        self.assertEqual(kind(("name", "k"), [("k", MM), ("a", ("name", "k"))]), ("constant", (1, 0)))


class Quantities(unittest.TestCase):
    def told(self, expression, *items, **handed):
        self.assertEqual(quantity(expression, **handed), items)

    def test_constants_are_sums_without_spots(self):
        self.told(MM, "sum", ((), (30, 1)), (1, 0))
        self.told(SECOND, "sum", ((), (3, 1)), (0, 1))
        self.told(grains((2, 3), "1/s"), "sum", ((), (4, 9)), (0, -1))
        self.told(("plus", MM, grains((1, 2))), "sum", ((), (61, 2)), (1, 0))
        self.told(("minus", grains(1), MM), "sum", ((), (-29, 1)), (1, 0))
        self.told(("times", MM, SECOND), "sum", ((), (90, 1)), (1, 1))
        self.told(("over", MM, SECOND), "sum", ((), (10, 1)), (1, -1))
        self.told(("over", grains(0), MM), "sum", ((), (0, 1)), (0, 0))

    def test_sizes_and_offsets(self):
        self.told(ONE, "sum", form((BORE, 1)), (1, 0))
        self.told(TWO, "sum", form((SLOT, 1)), (1, 0))
        self.told(BEAT, "sum", form((PULSE, 1)), (0, 1))
        self.told(ONE, "sum", form((("bore", 0, 2), 1)), (1, 0), day=2)
        for mark, stretch in ((-1000, 0), (3, 0), (4, 1), (6, 1), (7, 2), (1000, 2)):
            self.told(("offset", "tool", mark), "sum", form((("dial", stretch, 1), 1)), (1, 0))
            self.told(("offset", "tool", mark), "sum", form((("ring", 0, 0), 1)), (1, 0), devices=("ring", "clock"), day=0)
        self.told(("offset", "timer", 3), "sum", form((("clock", 1, 1), 1)), (0, 1))

    def test_rows_that_are_lists(self):
        self.told(ONE, "sum", form((SLOT, 1)), (1, 0), features=["slot", "bore", "beat"], devices=["dial", "clock"])

    def test_sums(self):
        self.told(("plus", ONE, TWO), "sum", form((BORE, 1), (SLOT, 1)), (1, 0))
        self.told(("plus", TWO, ONE), "sum", form((BORE, 1), (SLOT, 1)), (1, 0))
        self.told(("minus", TWO, ONE), "sum", form((BORE, -1), (SLOT, 1)), (1, 0))
        self.told(("minus", MM, ONE), "sum", form((BORE, -1), rest=(30, 1)), (1, 0))
        self.told(("plus", ONE, MM), "sum", form((BORE, 1), rest=(30, 1)), (1, 0))
        self.told(("minus", ONE, ("minus", TWO, MM)), "sum", form((BORE, 1), (SLOT, -1), rest=(30, 1)), (1, 0))
        self.told(("plus", ("plus", ONE, ONE), TOOL), "sum", form((BORE, 2), (DIAL, 1)), (1, 0))
        self.told(("times", BARE, ("minus", ONE, MM)), "sum", form((BORE, (5, 2)), rest=(-75, 1)), (1, 0))
        self.told(("times", ("minus", ONE, MM), BARE), "sum", form((BORE, (5, 2)), rest=(-75, 1)), (1, 0))
        self.told(("over", ("minus", ONE, MM), BARE), "sum", form((BORE, (2, 5)), rest=(-12, 1)), (1, 0))
        self.told(("over", ONE, SECOND), "sum", form((BORE, (1, 3))), (1, -1))

    def test_spots_whose_factors_come_to_0(self):
        self.told(("minus", ONE, ONE), "sum", ((), (0, 1)), (1, 0))
        self.told(("minus", ("plus", ONE, TWO), ONE), "sum", form((SLOT, 1)), (1, 0))
        self.told(("times", grains(0), ("plus", ONE, MM)), "sum", ((), (0, 1)), (2, 0))
        self.told(("times", ("minus", ONE, ONE), TWO), "product", ((), (0, 1)), form((SLOT, 1)), (1, 1), (2, 0))

    def test_terms_ascend_by_spots(self):
        names = [("a", ("plus", ("plus", TWO, ("offset", "tool", 7)), ("plus", ("offset", "tool", 0), ONE)))]
        terms = form((BORE, 1), (("dial", 0, 1), 1), (("dial", 2, 1), 1), (SLOT, 1))
        self.told(("name", "a"), "sum", terms, (1, 0), names=names)

    def test_products(self):
        self.told(("times", ONE, TWO), "product", form((BORE, 1)), form((SLOT, 1)), (1, 1), (2, 0))
        self.told(("times", TWO, ONE), "product", form((SLOT, 1)), form((BORE, 1)), (1, 1), (2, 0))
        self.told(("times", ("plus", ONE, MM), BEAT), "product", form((BORE, 1), rest=(30, 1)), form((PULSE, 1)), (1, 1), (1, 1))
        product = ("times", ONE, TWO)
        for expression, scale, dimension in (
            (("times", MM, product), (30, 1), (3, 0)), (("times", product, MM), (30, 1), (3, 0)), (("over", product, MM), (1, 30), (1, 0)),
            (("over", ("times", SECOND, product), MM), (1, 10), (1, 1)), (("times", grains(-2, "1"), ("over", product, SECOND)), (-2, 3), (2, -1)),
            (("times", grains(0), product), (0, 1), (3, 0)),
        ):
            self.told(expression, "product", form((BORE, 1)), form((SLOT, 1)), scale, dimension)
        inner = ("times", ("times", MM, ONE), TWO)
        self.told(inner, "product", form((BORE, 30)), form((SLOT, 1)), (1, 1), (3, 0))

    def test_quotients(self):
        self.told(("over", ONE, TWO), "quotient", form((BORE, 1)), form((SLOT, 1)), (1, 1), (0, 0))
        self.told(("over", MM, BEAT), "quotient", form(rest=(30, 1)), form((PULSE, 1)), (1, 1), (1, -1))
        self.told(("over", grains(0), BEAT), "quotient", form(), form((PULSE, 1)), (1, 1), (1, -1))
        divided = ("over", ONE, ("minus", TWO, MM))
        x, y = form((BORE, 1)), form((SLOT, 1), rest=(-30, 1))
        for expression, scale, dimension in (
            (("times", MM, divided), (30, 1), (1, 0)), (("times", divided, MM), (30, 1), (1, 0)), (("over", divided, SECOND), (1, 3), (0, -1)),
            (("over", ("times", divided, MM), SECOND), (10, 1), (1, -1)),
        ):
            self.told(expression, "quotient", x, y, scale, dimension)

    def test_what_is_handed_on_several_times(self):
        same = dict(features=("bore", "bore", "beat"))
        self.told(("plus", ONE, TWO), "sum", form((BORE, 2)), (1, 0), **same)
        self.told(("minus", ONE, TWO), "sum", form(), (1, 0), **same)
        self.told(("times", ONE, TWO), "product", form((BORE, 1)), form((BORE, 1)), (1, 1), (2, 0), **same)
        main = procedure(features=(), roles=(("a", "length"), ("b", "length")))
        made = house(main)
        gap = ("minus", ("offset", "a", 1), ("offset", "b", 8))
        self.assertEqual(quantity_of(made, main, gap, 0, (), ("dial", "dial")), ("sum", form((("dial", 0, 0), 1), (("dial", 2, 0), -1)), (1, 0)))
        gap = ("minus", ("offset", "a", 1), ("offset", "b", 2))
        self.assertEqual(quantity_of(made, main, gap, 0, (), ("dial", "dial")), ("sum", form(), (1, 0)))

    def test_names(self):
        names = [("a", ("minus", ONE, TWO)), ("b", ("times", ("name", "a"), BEAT)), ("k", MM)]
        self.told(("name", "a"), "sum", form((BORE, 1), (SLOT, -1)), (1, 0), names=names)
        self.told(("plus", ("name", "a"), ("name", "k")), "sum", form((BORE, 1), (SLOT, -1), rest=(30, 1)), (1, 0), names=tuple(names))
        self.told(("over", ("name", "b"), ("name", "k")), "product", form((BORE, 1), (SLOT, -1)), form((PULSE, 1)), (1, 30), (0, 1), names=names)
        self.told(("name", "k"), "sum", ((), (30, 1)), (1, 0), names=names)

    def test_a_long_row_of_names(self):
        """Each name stands for eight of the one before: it must not be gone through each time."""
        names = [("a", ONE)]
        for letter in "bcdefghijklmnopqrstuvwxyz":
            last = ("name", names[-1][0])
            for _ in range(3):
                last = ("plus", last, last)
            names.append((letter, last))
        self.told(("name", "z"), "sum", form((BORE, 8 ** 25)), (1, 0), names=names)
        self.assertEqual(kind(("name", "z"), names), ("sum", (1, 0)))

    def test_values_in_random_worlds(self):
        rng = random.Random(7)
        counts = {"sum": 0, "product": 0, "quotient": 0}
        for _ in range(600):
            expression = self.random_expression(rng, 3)
            if expression is None:
                continue
            values = {spot: Fraction(rng.randint(-40, 40), rng.randint(1, 5)) for spot in HOUSE.all_spots()}
            made = quantity(expression)
            counts[made[0]] += 1
            due = self.value(expression, values)
            if due is not None:
                self.assertEqual(self.value_of_quantity(made, values), due, expression)
            told = kind(expression)
            self.assertEqual((made[0], made[-1]), ("sum" if told[0] == "constant" else told[0], told[1]))
        self.assertGreater(min(counts.values()), 30)

    def random_expression(self, rng, depth):
        """An expression that is let, or None."""
        leaves = (ONE, TWO, BEAT, TOOL, MM, SECOND, BARE, ("offset", "tool", 9), grains((-7, 3), "mm"))
        if depth == 0 or rng.random() < 0.15:
            return rng.choice(leaves)
        for _ in range(30):
            left, right = self.random_expression(rng, depth - 1), self.random_expression(rng, depth - 1)
            word = rng.choice(("plus", "minus", "times", "over"))
            if left is None or right is None:
                continue
            (one, dimension), (other, second) = kind(left), kind(right)
            if (one, other) not in LET[word] or (word in ("plus", "minus") and dimension != second):
                continue
            if word == "over" and other == "constant" and quantity(right)[1][1][0] == 0:
                continue
            return (word, left, right)
        return None

    def value(self, expression, values):
        """The value of an expression, reckoned part by part; None if there is none."""
        word = expression[0]
        if word == "amount":
            factor = {"mm": Fraction(10), "s": Fraction(3, 2), "1": Fraction(1)}[expression[2]]
            return Fraction(*expression[1]) * factor
        if word == "size":
            return values[{"one": BORE, "two": SLOT, "beat": PULSE}[expression[1]]]
        if word == "offset":
            return values["dial", 1 if expression[2] == 5 else 2, 1]
        left, right = self.value(expression[1], values), self.value(expression[2], values)
        if left is None or right is None or (word == "over" and right == 0):
            return None
        return {"plus": left + right, "minus": left - right, "times": left * right, "over": left / right if right else None}[word]

    def value_of_quantity(self, made, values):
        x = self.value_of_form(made[1], values)
        if made[0] == "sum":
            return x
        y, scale = self.value_of_form(made[2], values), Fraction(*made[3])
        return scale * x * y if made[0] == "product" else scale * x / y

    def value_of_form(self, made, values):
        terms, rest = made
        return Fraction(*rest) + sum(Fraction(*factor) * values[spot] for spot, factor in terms)


class Nobodies(unittest.TestCase):
    def nobody(self, expression, role, devices=("nobody", "nobody"), names=()):
        with self.assertRaises(Nobody) as caught:
            quantity(expression, devices=devices, names=names)
        self.assertEqual(caught.exception.job, role)

    def test_the_parameter_of_the_first_such_offset(self):
        tool, timer = ("offset", "tool", 1), ("offset", "timer", 1)
        self.nobody(tool, "tool")
        self.nobody(timer, "timer")
        self.nobody(("times", tool, timer), "tool")
        self.nobody(("times", timer, tool), "timer")
        self.nobody(("times", tool, timer), "timer", devices=("dial", "nobody"))
        self.nobody(("times", timer, tool), "tool", devices=("nobody", "clock"))
        self.nobody(("over", ("plus", ONE, ("minus", TWO, tool)), timer), "tool")
        self.nobody(("minus", tool, tool), "tool")
        self.nobody(("times", grains(0), timer), "timer")

    def test_names_are_looked_through(self):
        names = [("a", ("offset", "timer", 1)), ("b", ("times", ("offset", "tool", 1), ("name", "a"))), ("c", ONE)]
        self.nobody(("name", "a"), "timer", names=names)
        self.nobody(("name", "b"), "tool", names=names)
        self.nobody(("times", ("name", "c"), ("name", "a")), "timer", names=names)
        self.nobody(("over", ("name", "a"), ("offset", "tool", 1)), "timer", names=names)

    def test_without_such_an_offset(self):
        names = [("a", ("offset", "timer", 1))]
        made = quantity(("times", ONE, ("offset", "tool", 1)), devices=("dial", "nobody"), names=names)
        self.assertEqual(made, ("product", form((BORE, 1)), form((("dial", 0, 1), 1)), (1, 1), (2, 0)))
        self.assertEqual(quantity(ONE, devices=("nobody", "nobody"), names=names), ("sum", form((BORE, 1)), (1, 0)))
        self.assertEqual(kind(("name", "a"), names), ("sum", (0, 1)))


if __name__ == "__main__":
    unittest.main()
