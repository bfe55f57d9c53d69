"""[5], [48] finer grains of a charter and of a book."""

import random
import unittest

from ellwarden.books import Book
from ellwarden.bookwebs import web_of
from ellwarden.charters import Charter
from ellwarden.charts import chart_of, danger, pruned
from ellwarden.claims import denies, value_in
from ellwarden.errors import BadCharter, BadStep, TooLarge, Unknown
from ellwarden.forms import Form
from ellwarden.grains import finer, finer_charter
from ellwarden.grounds import doubts, felling, grounds, leaning
from ellwarden.ratios import ratio, times
from ellwarden.slips import enter_run, retold, slip_of
from ellwarden.standing import Fallen, history
from ellwarden.worlds import GROUND, World
from samples import STRANGE, Case, charter, device, feature, house, keeper, procedure, ratios, sized, spot_form, swapped

DIAL = ("dial", "length", 0, 9, 10, 13, -50, 60, 1, 2, 3, (4, 7))
CLOCK = ("clock", "time", -3, 3, 7, 20, -5, 6, 2, 1, 4, ())
BORE = ("bore", "length", -10, 100, 3, 5)
BEAT = ("beat", "time", 5, 50, 1, 2)
UNITS = (("mm", (1, 0), (10, 1)), ("s", (0, 1), (3, 2)), ("speed", (1, -1), (5, 7)), ("fine", (-2, 3), (8, 9)), ("bare", (0, 0), (1, 100)))
PARTS = {"days": 3, "bases": ("length", "time"), "units": UNITS, "devices": (DIAL, CLOCK), "features": (BORE, BEAT), "roles": (("gauge", "length"), ("timer", "time")), "jobs": ("fit",)}
KEEPER = Charter(**PARTS)


class Charters(Case):
    def test_things_and_units_of_the_base(self):
        made = finer_charter(KEEPER, "length", 3)
        self.assertEqual(made, Charter(**{
            **PARTS, "devices": (("dial", "length", 0, 9, 30, 39, -150, 180, 3, 6, 9, (4, 7)), CLOCK), "features": (("bore", "length", -30, 300, 9, 15), BEAT),
            "units": (("mm", (1, 0), (30, 1)), ("s", (0, 1), (3, 2)), ("speed", (1, -1), (15, 7)), ("fine", (-2, 3), (8, 81)), ("bare", (0, 0), (1, 100))),
        }))
        self.assertIsInstance(made, Charter)
        made = finer_charter(KEEPER, "time", 2)
        self.assertEqual(made, Charter(**{
            **PARTS, "devices": (DIAL, ("clock", "time", -3, 3, 14, 40, -10, 12, 4, 2, 8, ())), "features": (BORE, ("beat", "time", 10, 100, 2, 4)),
            "units": (("mm", (1, 0), (10, 1)), ("s", (0, 1), (3, 1)), ("speed", (1, -1), (5, 14)), ("fine", (-2, 3), (64, 9)), ("bare", (0, 0), (1, 100))),
        }))

    def test_by_1_and_by_1000(self):
        for base in ("length", "time"):
            self.assertEqual(finer_charter(KEEPER, base, 1), KEEPER)
        made = finer_charter(KEEPER, "length", 1000)
        self.assertEqual(made.devices[0], ("dial", "length", 0, 9, 10000, 13000, -50000, 60000, 1000, 2000, 3000, (4, 7)))
        self.assertEqual(made.units[0][2], (10000, 1))
        self.assertEqual(finer_charter(finer_charter(KEEPER, "length", 8), "length", 125), made)
        self.assertEqual(finer_charter(finer_charter(KEEPER, "length", 2), "time", 3), finer_charter(finer_charter(KEEPER, "time", 3), "length", 2))

    def test_procedures_stay(self):
        main = procedure(("tell", "x", sized("one"), "mm"), ("judge", "y", sized("one"), ("amount", (50, 1), "length"), ("amount", (6, 1), "mm")))
        made = house(main)
        for base in ("length", "time"):
            self.assertEqual(finer_charter(made, base, 2).procedures, made.procedures)

    def test_amounts_that_become_another_one(self):
        # The limits are equal in the new grains, which a procedure may not have.
        main = procedure(("judge", "y", sized("one"), ("amount", (20, 1), "length"), ("amount", (1, 1), "mm")))
        self.assertEqual(finer_charter(house(main), "length", 3).procedures, (main,))
        error = self.raises(BadStep, lambda: finer_charter(house(main), "length", 2))
        self.assertEqual((error.procedure, error.step, error.kind), ("main", 0, "nought"))

    def test_unknown(self):
        book = Book(KEEPER)
        for name in ("mass", "mm", "dial", "gauge", "fit", "Length", "") + STRANGE:
            for many in (1, 10 ** 20):
                self.raises(Unknown, lambda: finer_charter(KEEPER, name, many), name=name)
                self.raises(Unknown, lambda: finer(book, name, many), name=name)

    def test_too_large_at_each_size(self):
        big = 10 ** 9
        whole = device("dial", slack=10 ** 8)
        for place in range(4, 11):
            number = -big if place == 6 else big
            entry = swapped(whole, place, number)
            if place in (4, 10):
                entry = swapped(entry, 5, big)
            if place == 5:
                entry = swapped(entry, 5, big)
            made = charter(devices=(entry, device("ring", least=-big)), features=(feature("bore", greatest=big),), procedures=())
            first = [size for size in entry[4:11] if abs(size) * 2 > big][0]
            self.raises(TooLarge, lambda: finer_charter(made, "length", 2), number=first * 2)
            self.raises(TooLarge, lambda: finer(Book(made), "length", 2), number=first * 2)
        for place in range(2, 6):
            number = -big if place == 2 else big
            made = charter(devices=(), features=(feature("slot"), swapped(feature("bore", greatest=5), place, number), feature("peg", greatest=big)), procedures=())
            self.raises(TooLarge, lambda: finer_charter(made, "length", 3), number=number * 3)

    def test_at_the_edge(self):
        for size, many, told in ((10 ** 9, 1, True), (5 * 10 ** 8, 2, True), (5 * 10 ** 8 + 1, 2, False), (333333333, 3, True), (333333334, 3, False), (1, 10 ** 9, True), (1, 10 ** 9 + 1, False)):
            for low, high in ((0, size), (-size, 0)):
                made = charter(devices=(), features=(feature("bore", least=low, greatest=high),), procedures=(), units=())
                if told:
                    self.assertEqual(finer_charter(made, "length", many).features[0][2:4], (low * many, high * many))
                else:
                    self.raises(TooLarge, lambda: finer_charter(made, "length", many), number=(low or high) * many)
        # Of another base no size grows, and 0 never does.
        self.assertEqual(finer_charter(keeper(features=(), units=(), devices=(device("clock", "time"),), procedures=()), "length", 10 ** 30).devices[0][4], 10)
        made = charter(devices=(), features=(feature("bore", least=0, greatest=0),), procedures=(), units=())
        self.assertEqual(finer_charter(made, "length", 10 ** 30), made)

    def test_factors_that_become_too_long(self):
        for dimension, factor, many, told in (
            ((1, 0), (10 ** 11, 1), 9, True), ((1, 0), (10 ** 11, 1), 10, False), ((-1, 0), (1, 10 ** 11), 9, True), ((-1, 0), (1, 10 ** 11), 10, False), ((9, 0), (1, 1), 21, True), ((9, 0), (1, 1), 22, False),
            ((-9, 3), (1, 1), 22, False), ((0, 9), (10 ** 11, 1), 1000, True), ((1, 0), (1, 10 ** 11), 10 ** 12, True),
        ):
            for place in (0, 2):
                units = [("min", (0, 1), (60, 1)), ("s", (0, 1), (3, 2))]
                units.insert(place, ("odd", dimension, factor))
                made = Charter(days=1, bases=("length", "time"), units=units)
                if told:
                    self.assertEqual(len(finer_charter(made, "length", many).units), 3)
                else:
                    self.raises(BadCharter, lambda: finer_charter(made, "length", many), part="units", place=place)
                    self.raises(BadCharter, lambda: finer(Book(made), "length", many), part="units", place=place)

    def test_too_large_ahead_of_a_factor(self):
        made = Charter(**{**PARTS, "units": (("odd", (9, 0), (1, 1)),)})
        self.raises(TooLarge, lambda: finer_charter(made, "length", 10 ** 9), number=10 ** 10)
        self.raises(BadCharter, lambda: finer_charter(made, "length", 22), part="units", place=0)


def told(claim):
    return ("told", claim)


def new_claim(claim, base="length", many=2):
    made = finer(Book.of(KEEPER, [(0, told(claim))]), base, many)
    return made[0][1][1]


X = spot_form(("bore", 0, 1), (("dial", 2, 0), (-2, 3)), rest=(7, 2))
Y = spot_form(("beat", 0, 1), rest=(5, 1))
BARE = ((), (9, 4))


def rested(form, number):
    return (form[0], times(form[1], ratio(number)))


class Books(Case):
    def test_certificates(self):
        rows = [
            (0, ("cert", "dial", 0, 2, 0, 2, "ground", 0, -7, 9)), (1, ("cert", "bore", 0, 0, 1, 1, "dial", 2, 0, 5)), (1, ("cert", "clock", 0, 0, 0, 2, "beat", 0, -3, 4)),
            (2, ("cert", "beat", 0, 0, 0, 0, "ground", 0, 6, 7)),
        ]
        made = finer(Book.of(KEEPER, rows), "length", 10)
        self.assertEqual(list(made), [(0, ("cert", "dial", 0, 2, 0, 2, "ground", 0, -70, 90)), (1, ("cert", "bore", 0, 0, 1, 1, "dial", 2, 0, 50)), rows[2], rows[3]])
        self.assertEqual(made.charter, finer_charter(KEEPER, "length", 10))
        made = finer(Book.of(KEEPER, rows), "time", 10)
        self.assertEqual(list(made), rows[:2] + [(1, ("cert", "clock", 0, 0, 0, 2, "beat", 0, -30, 40)), (2, ("cert", "beat", 0, 0, 0, 0, "ground", 0, 60, 70))])

    def test_other_news_and_known_days_stay(self):
        rows = [
            (0, ("read", "bore", "gauge", 1, 7)), (0, ("stand", "gauge", "dial", 0, 2)), (1, ("jolt", "bore", 2)), (1, ("edition", "fit", "nobody", 0, 0)), (2, ("strike", 0)), (2, ("strike", 4)),
        ]
        book = Book.of(KEEPER, rows)
        for base in ("length", "time"):
            for many in (1, 2, 1000):
                made = finer(book, base, many)
                self.assertIsInstance(made, Book)
                self.assertEqual(list(made), rows)
                self.assertEqual(made.charter, finer_charter(KEEPER, base, many))
        self.assertEqual(list(book), rows)
        self.assertEqual(finer(book, "length", 1), book)
        self.assertIsNot(finer(book, "length", 1), book)

    def test_sums(self):
        for word, first, second in (("within", (-3, 2), (5, 1)), ("passed", (4, 1), (7, 3)), ("failed", (1, 1), (2, 1))):
            made = new_claim((word, ("sum", X, (1, 0)), first, second))
            self.assertEqual(made, (word, ("sum", rested(X, 2), (1, 0)), times(first, (2, 1)), times(second, (2, 1))))
            # A sum of another base stays.
            claim = (word, ("sum", Y, (0, 1)), first, second)
            self.assertEqual(new_claim(claim), claim)
            self.assertEqual(new_claim(claim, "time", 5), (word, ("sum", rested(Y, 5), (0, 1)), times(first, (5, 1)), times(second, (5, 1))))
            # Without spots, by the exponent.
            for exponent, number in ((3, (8, 1)), (1, (2, 1)), (0, (1, 1)), (-1, (1, 2)), (-9, (1, 512))):
                for other in (-9, 0, 9):
                    made = new_claim((word, ("sum", BARE, (exponent, other)), first, second))
                    self.assertEqual(made, (word, ("sum", ((), times((9, 4), number)), (exponent, other)), times(first, number), times(second, number)))

    def product(self, word, x, y, exponent, left, forms):
        """By 2, the scale is multiplied by 2 to the power left."""
        dimension = (exponent, 3)
        made = new_claim(("within", (word, x, y, (3, 5), dimension), (-1, 3), (7, 1)))
        power = ratio(2 ** left) if left >= 0 else ratio(1, 2 ** -left)
        whole = ratio(2 ** exponent) if exponent >= 0 else ratio(1, 2 ** -exponent)
        self.assertEqual(made, ("within", (word, *forms, times((3, 5), power), dimension), times((-1, 3), whole), times((7, 1), whole)))

    def test_products(self):
        for exponent in (-9, -2, -1, 0, 1, 2, 3, 9):
            self.product("product", X, X, exponent, exponent - 2, (rested(X, 2), rested(X, 2)))
            self.product("product", X, Y, exponent, exponent - 1, (rested(X, 2), Y))
            self.product("product", Y, X, exponent, exponent - 1, (Y, rested(X, 2)))
            self.product("product", Y, Y, exponent, exponent, (Y, Y))
            self.product("product", X, BARE, exponent, exponent - 1, (rested(X, 2), BARE))
            self.product("product", BARE, BARE, exponent, exponent, (BARE, BARE))

    def test_quotients(self):
        for exponent in (-9, -1, 0, 1, 2, 9):
            self.product("quotient", X, X, exponent, exponent, (rested(X, 2), rested(X, 2)))
            self.product("quotient", X, Y, exponent, exponent - 1, (rested(X, 2), Y))
            self.product("quotient", Y, X, exponent, exponent + 1, (Y, rested(X, 2)))
            self.product("quotient", BARE, X, exponent, exponent + 1, (BARE, rested(X, 2)))
            self.product("quotient", X, BARE, exponent, exponent - 1, (rested(X, 2), BARE))
            self.product("quotient", BARE, BARE, exponent, exponent, (BARE, BARE))

    def test_claims_of_limits(self):
        quotient = ("quotient", X, Y, (1, 1), (1, -1))
        self.assertEqual(new_claim(("passed", quotient, (4, 1), (-7, 3)), "time", 3), ("passed", ("quotient", X, rested(Y, 3), (1, 1), (1, -1)), (4, 3), (-7, 9)))
        self.assertEqual(new_claim(("failed", quotient, (4, 1), (5, 1))), ("failed", ("quotient", rested(X, 2), Y, (1, 1), (1, -1)), (8, 1), (10, 1)))

    def test_too_large(self):
        cert = ("cert", "bore", 0, 0, 1, 1, "ground", 0, -6 * 10 ** 7, 9 * 10 ** 7)
        book = Book.of(KEEPER, [(0, ("cert", "beat", 0, 0, 0, 0, "ground", 0, 10 ** 9, 10 ** 9)), (0, swapped(cert, 8, 0)), (0, cert), (0, ("strike", 1))])
        self.assertEqual(finer(book, "length", 11)[1][1][9], 99 * 10 ** 7)
        # The first size: news by news, low ahead of high.
        self.raises(TooLarge, lambda: finer(book, "length", 12), number=108 * 10 ** 7)
        self.raises(TooLarge, lambda: finer(Book.of(KEEPER, [(0, cert)]), "length", 17), number=-102 * 10 ** 7)
        self.raises(TooLarge, lambda: finer(Book.of(KEEPER, [(0, cert)]), "length", 12), number=108 * 10 ** 7)
        self.raises(TooLarge, lambda: finer(book, "time", 2), number=2 * 10 ** 9)
        # The charter first.
        self.raises(TooLarge, lambda: finer(Book.of(KEEPER, [(0, cert)]), "length", 10 ** 8 + 1), number=10 ** 9 + 10)
        # Then the news, and a factor behind that.
        made = Charter(**{**PARTS, "units": (("odd", (9, 0), (1, 1)),)})
        self.raises(TooLarge, lambda: finer(Book.of(made, [(0, cert)]), "length", 22), number=-132 * 10 ** 7)
        self.raises(BadCharter, lambda: finer(Book(made), "length", 22), part="units", place=0)

    def test_values_of_claims(self):
        rng = random.Random(48)
        spots = {"length": [("bore", 0, 1), ("bore", 0, 2), ("dial", 1, 0)], "time": [("beat", 0, 0), ("clock", 0, 2)]}
        for _ in range(150):
            def form(base):
                if base is None:
                    return ((), (rng.randint(-9, 9), 1))
                return spot_form(*[(spot, (rng.choice((-2, 1, 3)), 1)) for spot in rng.sample(spots[base], rng.randint(1, 2))], rest=(rng.randint(-9, 9), 1))

            bases = [rng.choice(("length", "time", None)) for _ in range(2)]
            word = rng.choice(("sum", "product", "quotient"))
            dimension = (rng.randint(-3, 3), rng.randint(-3, 3))
            if word == "sum":
                if bases[0] is not None:
                    dimension = (1, 0) if bases[0] == "length" else (0, 1)
                quantity = ("sum", form(bases[0]), dimension)
            else:
                quantity = (word, form(bases[0]), form(bases[1]), ratio(rng.randint(1, 5), 3), dimension)
            claim = (rng.choice(("within", "passed", "failed")), quantity, *ratios(*sorted(rng.sample(range(-200, 200), 2))))
            base, many = rng.choice(("length", "time")), rng.choice((2, 3, 10))
            made = new_claim(claim, base, many)
            # The same world, told in the new grains.
            values = {spot: rng.randint(-9, 9) for row in spots.values() for spot in row}
            world = World([(GROUND, (0, 1))] + [(spot, (value, 1)) for spot, value in values.items()])
            other = World([(GROUND, (0, 1))] + [(spot, (value * (many if spot in spots[base] else 1), 1)) for spot, value in values.items()])
            self.assertEqual(denies(world, claim), denies(other, made))
            before, after = value_in(world, quantity), value_in(other, made[1])
            exponent = dimension[("length", "time").index(base)]
            power = ratio(many ** exponent) if exponent >= 0 else ratio(1, many ** -exponent)
            self.assertEqual(after, None if before is None else times(before, power))


ONE = sized("one")
MAIN = (
    "main", (("one", "length"),), (("tool", "length"),),
    (
        ("read", "one", "tool"), ("choose", ONE, ("amount", (3, 1), "mm"), ("amount", (6, 1), "mm"), (), (), (("read", "one", "tool"),)),
        ("judge", "y", ("times", ONE, ONE), ("amount", (20, 1), "mm^2"), ("amount", (50, 1), "mm^2")), ("tell", "x", ONE, "mm"), ("tell", "z", ("over", ONE, ("plus", ONE, ("amount", (2, 1), "mm"))), "bare"),
    ),
)
MAKER = Charter(
    days=3, bases=("length", "time"), units=(("mm", (1, 0), (10, 1)), ("bare", (0, 0), (1, 1))), devices=(("dial", "length", 0, 9, 10, 10, -50, 50, 1, 1, 0, (4,)),),
    features=(("bore", "length", 0, 100, 1, 0),), roles=(("gauge", "length"),), jobs=("fit",), procedures=(MAIN,),
)


class TheSame(Case):
    """What is told in units that are no grains."""

    def book(self, rng):
        book = Book.of(MAKER, [(0, ("stand", "gauge", "dial", 0, 2)), (0, ("edition", "fit", "main", 0, 2)), (0, ("cert", "dial", 0, 1, 0, 2, "ground", 0, -rng.randint(0, 9), rng.randint(0, 9)))])
        for _ in range(rng.randint(0, 3)):
            low = rng.randint(0, 60)
            book.enter(0, ("cert", "bore", 0, 0, 1, rng.randint(1, 2), "ground", 0, low, low + 40))
        return book

    def run_of(self, book, marks):
        return slip_of(book, "fit", 1, ["bore"], ["gauge"])(marks)

    def test_runs_tellings_grounds_and_charts(self):
        rng = random.Random(49)
        told = set()
        for _ in range(12):
            book = self.book(rng)
            if web_of(book).bad_ring() is not None:
                continue
            for _ in range(2):
                run = self.run_of(book, [rng.randint(2, 7) for _ in range(2)])
                if run.kind == "done":
                    enter_run(book, 1, run)
            book.enter(1, ("told", ("within", ("sum", spot_form(("bore", 0, 1)), (1, 0)), (30, 1), (70, 1))))
            book.enter(2, ("strike", 2))
            for many in (2, 7):
                made = finer(book, "length", many)
                self.assertEqual([day for day, _ in made], [day for day, _ in book])
                self.assertEqual(retold(made, "fit", 1, ["bore"], ["gauge"]).rows, retold(book, "fit", 1, ["bore"], ["gauge"]).rows)
                for moment in (None, len(book) - 1):
                    self.assertEqual([number for number, _ in Fallen(made, moment)], [number for number, _ in Fallen(book, moment)])
                    slips = [slip_of(one, "fit", 1, ["bore"], ["gauge"], moment) for one in (book, made)]
                    self.assertEqual(chart_of(slips[1]), chart_of(slips[0]))
                    self.assertEqual(danger(slips[1]), danger(slips[0]))
                    for marks in ([], [3], [5, 5], [9, 0]):
                        runs = [slip(marks) for slip in slips]
                        self.assertEqual((runs[0].kind, runs[0].rows, runs[0].reads), (runs[1].kind, runs[1].rows, runs[1].reads))
                for number in book.in_force():
                    if book[number][1][0] == "told":
                        told.add(history(book, number)[-1])
                        self.assertEqual(history(made, number), history(book, number))
                        for call in (grounds, leaning, felling):
                            self.assertEqual(call(made, made[number][1][1]), call(book, book[number][1][1]))
                self.assertEqual(doubts(made), doubts(book))
            self.assertEqual(finer(finer(book, "length", 2), "length", 5), finer(book, "length", 10))
        self.assertEqual(told, {"stands", "denied"})

    def test_worlds_are_the_same_in_the_new_grains(self):
        book = self.book(random.Random(1))
        web, made = web_of(book), web_of(finer(book, "length", 6))
        for a in web.spots:
            for b in web.spots:
                self.assertEqual(made.bound(a, b), 6 * web.bound(a, b))
        # In another base nothing changes.
        self.assertEqual(web_of(finer(book, "time", 6)), web)

    def test_an_amount_in_grains_is_another_one(self):
        main = procedure(("judge", "y", ONE, ("amount", (50, 1), "length"), ("amount", (120, 1), "length")))
        made = house(main, features=(feature("bore", greatest=40), feature("slot"), feature("beat", "time")), jobs=("fit",))
        rows = [(0, ("edition", "fit", "main", 0, 2)), (0, ("stand", "gauge", "dial", 0, 2)), (0, ("stand", "timer", "clock", 0, 2))]
        book = Book.of(made, rows)
        words = []
        for one in (book, finer(book, "length", 2), finer(book, "length", 4), finer(book, "time", 4)):
            words += [row[2] for row in slip_of(one, "fit", 1, ["bore", "slot", "beat"], ["gauge", "timer"])([]).rows]
        # The size is at most 40, then 80, then 160 grains.
        self.assertEqual(words, ["passed", "passed", "open", "passed"])

    def test_pruned_charts(self):
        book = self.book(random.Random(2))
        charts = [pruned(chart_of(slip_of(one, "fit", 1, ["bore"], ["gauge"]))) for one in (book, finer(book, "length", 3))]
        self.assertEqual(charts[0], charts[1])

    def test_forms_of_the_new_claims(self):
        claim = ("within", ("sum", spot_form(("bore", 0, 1), rest=(5, 1)), (1, 0)), (0, 1), (105, 1))
        made = finer(Book.of(MAKER, [(0, ("told", claim))]), "length", 4)[0][1][1]
        self.assertEqual(Form(*made[1][1]).rest, (20, 1))
        self.assertEqual(history(finer(Book.of(MAKER, [(0, ("told", claim))]), "length", 4), 0), ("stands",))


if __name__ == "__main__":
    unittest.main()
