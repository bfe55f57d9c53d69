"""[22] worlds that deny a claim; [40] states of tellings, histories, first blames, fallen tellings."""

import random
import time
import unittest

from ellwarden.books import Book
from ellwarden.bookwebs import web_of
from ellwarden.charters import Charter
from ellwarden.claims import denies, value_in
from ellwarden.errors import Clash, NoMoment, NoSpot, NoTelling
from ellwarden.standing import Fallen, blame, denying, history, state
from ellwarden.webs import Web
from ellwarden.worlds import GROUND, World
from brute import corners
from samples import STRANGE, device, feature, keeper, ratios, spot_form
from test_ends import BROKEN, web_with_a_world
from test_webs import WebCase, tied

A, B, C = ("a", 0, 0), ("b", 0, 0), ("c", 0, 0)
# a from 2 to 9, b from -3 to 4.
WEB = Web([GROUND, A, B], tied(A, 2, 9) + tied(B, -3, 4))
X, Y = spot_form(A), spot_form(B)
SUM = ("sum", X, (1,))
PRODUCT = ("product", X, Y, (1, 1), (2,))
QUOTIENT = ("quotient", Y, X, (2, 1), (0,))


def within(quantity, least, greatest):
    return ("within", quantity, *[number if isinstance(number, tuple) else (number, 1) for number in (least, greatest)])


def limits(word, quantity, good, bad):
    return (word, quantity, *[number if isinstance(number, tuple) else (number, 1) for number in (good, bad)])


class Denying(WebCase):
    def stands(self, web, *claims):
        for claim in claims:
            self.assertIsNone(denying(web, claim), claim)

    def denied(self, web, *claims):
        for claim in claims:
            world = denying(web, claim)
            self.is_world(web, world)
            self.assertTrue(denies(world, claim), claim)

    def test_within_at_just_within_and_just_beyond_the_ends(self):
        # From 2 to 9; from -27 to 36; from -3 to 4.
        for quantity, low, high in ((SUM, 2, 9), (PRODUCT, -27, 36), (QUOTIENT, -3, 4)):
            self.stands(WEB, within(quantity, low, high), within(quantity, low - 1, high + 1), within(quantity, (2 * low - 1, 2), (2 * high + 1, 2)))
            self.denied(WEB, within(quantity, (2 * low + 1, 2), high), within(quantity, low, (2 * high - 1, 2)), within(quantity, low + 1, high - 1))
            self.denied(WEB, within(quantity, (low * 10 ** 30 + 1, 10 ** 30), high), within(quantity, low, (high * 10 ** 30 - 1, 10 ** 30)))
            self.denied(WEB, within(quantity, -99, -98), within(quantity, 98, 99))

    def test_passed(self):
        for quantity, low, high in ((SUM, 2, 9), (PRODUCT, -27, 36), (QUOTIENT, -3, 4)):
            # The lower the better: bad from N on.
            self.stands(WEB, limits("passed", quantity, -99, (high * 100 + 1, 100)), limits("passed", quantity, high, high + 1), limits("passed", quantity, low, high + 1))
            self.denied(WEB, limits("passed", quantity, -99, high), limits("passed", quantity, -99, low), limits("passed", quantity, -99, -98))
            # The greater the better: bad up to N.
            self.stands(WEB, limits("passed", quantity, 99, (low * 100 - 1, 100)), limits("passed", quantity, low, low - 1))
            self.denied(WEB, limits("passed", quantity, 99, low), limits("passed", quantity, 99, high), limits("passed", quantity, 99, 98))

    def test_failed(self):
        for quantity, low, high in ((SUM, 2, 9), (PRODUCT, -27, 36), (QUOTIENT, -3, 4)):
            # The lower the better: good up to G.
            self.stands(WEB, limits("failed", quantity, (low * 100 - 1, 100), 99), limits("failed", quantity, low - 1, low))
            self.denied(WEB, limits("failed", quantity, low, 99), limits("failed", quantity, high, 99), limits("failed", quantity, 98, 99))
            self.stands(WEB, limits("failed", quantity, (high * 100 + 1, 100), -99), limits("failed", quantity, high + 1, high))
            self.denied(WEB, limits("failed", quantity, high, -99), limits("failed", quantity, low, -99), limits("failed", quantity, -98, -99))

    def test_values_between_the_limits_are_neither(self):
        between = ("sum", spot_form(A, rest=(0, 1)), (1,))
        self.stands(WEB, limits("passed", between, 1, 10), limits("failed", between, 1, 10), limits("passed", between, 10, 1), limits("failed", between, 10, 1))

    def test_a_divisor_that_can_be_nought(self):
        quotient = ("quotient", X, Y, (1, 1), (0,))
        for claim in (within(quotient, -10 ** 9, 10 ** 9), limits("passed", quotient, -10 ** 9, 10 ** 9), limits("failed", quotient, -10 ** 9, 10 ** 9)):
            world = denying(WEB, claim)
            self.is_world(WEB, world)
            self.assertIsNone(value_in(world, quotient))
        # Just so.
        for least, told in ((0, True), (1, False)):
            web = Web([GROUND, A, B], tied(A, 2, 9) + tied(B, least, 4))
            self.assertEqual(denying(web, within(quotient, -10 ** 9, 10 ** 9)) is not None, told)

    def test_forms_without_spots(self):
        for rest in ((5, 1), (-7, 3), (0, 1)):
            bare = ("sum", ((), rest), (1,))
            self.stands(WEB, within(bare, rest, rest), within(bare, -99, 99), limits("passed", bare, rest, 99), limits("passed", bare, rest, -99))
            self.denied(WEB, within(bare, 98, 99), within(bare, -99, -98), limits("failed", bare, rest, 99), limits("passed", bare, 99, rest), limits("passed", bare, -99, rest))
        self.denied(WEB, within(("quotient", X, ((), (0, 1)), (1, 1), (0,)), -99, 99))
        self.stands(WEB, within(("quotient", X, ((), (2, 1)), (1, 1), (0,)), 1, (9, 2)), within(("product", X, ((), (0, 1)), (1, 1), (0,)), 0, 0))

    def test_a_product_that_turns_within_a_side(self):
        # a + b is 6, so the product is 9 at most, at 3 and 3.
        web = Web([GROUND, A, B], tied(A, 0, 6) + tied(B, 0, 6))
        product = ("product", X, spot_form((A, (-1, 1)), rest=(6, 1)), (1, 1), (2,))
        self.stands(web, within(product, 0, 9))
        self.denied(web, within(product, 0, (89, 10)), within(product, (1, 100), 9), limits("passed", product, 0, 9))

    def test_strange_spots_then_a_clash(self):
        for web in (WEB, BROKEN):
            self.raises(NoSpot, lambda: denying(web, within(("sum", spot_form(A, C), (1,)), 0, 1)), spot=C)
            for word in ("product", "quotient"):
                for x, y, first in ((X, spot_form(C), C), (spot_form(C, ("d", 0, 0)), spot_form(("e", 0, 0)), C), (((), (1, 1)), spot_form(("d", 0, 0)), ("d", 0, 0))):
                    self.raises(NoSpot, lambda: denying(web, within((word, x, y, (1, 1), (0,)), 0, 1)), spot=first)
        for claim in (within(SUM, 0, 1), limits("passed", SUM, 99, 98), within(("sum", ((), (1, 1)), (1,)), 0, 1), within(("product", X, X, (1, 1), (0,)), 0, 1)):
            self.is_ring(BROKEN, self.raises(Clash, lambda: denying(BROKEN, claim)).ring)

    def test_random_claims(self):
        rng = random.Random(22)
        told = {True: 0, False: 0}
        for _ in range(250):
            web = web_with_a_world(rng, 3, 3)
            spots = web.spots[1:]

            def form():
                return spot_form(*[(spot, (rng.choice((-2, -1, 1, 3)), 1)) for spot in rng.sample(spots, rng.randint(1, 2))], rest=(rng.randint(-60, 60), 1))

            quantity = rng.choice((("sum", form(), (1,)), ("quotient", form(), form(), (1, 2), (0,))))
            numbers = sorted(rng.sample(range(-60, 60), 2))
            claim = (rng.choice(("within", "passed", "failed")), quantity, *ratios(*numbers))
            # Sums and quotients are least and greatest at corners of the worlds.
            worlds = [World([(spot, (values[spot], 1)) for spot in web.spots]) for values in corners(web)]
            found = any(denies(world, claim) for world in worlds)
            if quantity[0] == "quotient":
                divisors = [value_in(world, ("sum", quantity[2], (1,))) for world in worlds]
                found = found or (min(divisors)[0] <= 0 <= max(divisors)[0])
            told[found] += 1
            if found:
                self.denied(web, claim)
            else:
                self.stands(web, claim)
        self.assertGreater(min(told.values()), 20)


KEEPER = keeper()
BORE = ("bore", 0, 1)
NARROW = ("cert", "bore", 0, 0, 0, 2, "ground", 0, 20, 30)
CLAIM = within(("sum", spot_form(BORE), (1, 0)), 10, 40)
TOLD = ("told", CLAIM)
# It clashes with the narrow one.
OTHER = ("cert", "bore", 0, 0, 1, 1, "ground", 0, 50, 60)


def book_of(*rows):
    return Book.of(KEEPER, [(0, news) for news in rows])


class States(WebCase):
    def test_each_state_at_each_moment(self):
        # 0 narrow, 1 told, 2 struck 0, 3 struck 2, 4 other, 5 struck 4, 6 struck 1, 7 struck 6.
        book = book_of(NARROW, TOLD, ("strike", 0), ("strike", 2), OTHER, ("strike", 4), ("strike", 1), ("strike", 6))
        told = ("stands", "denied", "stands", "clash", "stands", "struck", "stands")
        self.assertEqual(tuple(state(book, 1, moment) for moment in range(2, 9)), told)
        self.assertEqual(history(book, 1), told)
        self.assertIs(type(history(book, 1)), tuple)
        self.assertEqual((state(book, 1), state(book, 1, None)), ("stands", "stands"))
        self.assertEqual(blame(book, 1), 2)

    def test_struck_goes_ahead_of_clash_and_clash_ahead_of_denied(self):
        book = book_of(TOLD, ("strike", 0), NARROW, OTHER, ("strike", 1))
        self.assertEqual(history(book, 0), ("denied", "struck", "struck", "struck", "clash"))
        self.assertEqual(blame(book, 0), 0)

    def test_strikes_of_strikes(self):
        book = book_of(NARROW, TOLD, ("strike", 0), ("strike", 2), ("strike", 3), ("strike", 4))
        self.assertEqual(history(book, 1), ("stands", "denied", "stands", "denied", "stands"))
        self.assertEqual(blame(book, 1), 2)

    def test_what_is_found_later_than_a_clash(self):
        # The moment is in a clash when the telling is entered, and denied when that has ended.
        book = book_of(NARROW, OTHER, TOLD, ("strike", 1), ("strike", 0), ("strike", 4))
        self.assertEqual(history(book, 2), ("clash", "stands", "denied", "stands"))
        self.assertEqual(blame(book, 2), 4)

    def test_a_telling_that_stands_again_keeps_its_first_blame(self):
        book = book_of(NARROW, TOLD, ("strike", 0), NARROW, ("strike", 3))
        self.assertEqual(history(book, 1), ("stands", "denied", "stands", "denied"))
        self.assertEqual(blame(book, 1), 2)

    def test_no_blame(self):
        self.assertIsNone(blame(book_of(NARROW, TOLD), 1))
        self.assertIsNone(blame(book_of(NARROW, OTHER, TOLD), 2))
        self.assertIsNone(blame(book_of(NARROW, TOLD, ("strike", 1), ("strike", 0)), 1))
        self.assertEqual(blame(book_of(TOLD), 0), 0)
        self.assertEqual(blame(book_of(("jolt", "dial", 1), TOLD), 1), 1)

    def test_a_jolt_and_a_stand_take_what_it_rests_on(self):
        charter = Charter(days=3, bases=("length",), devices=[device("dial"), device("ring", least=-5, greatest=5)], features=[feature("bore", fall=1, rise=1)], roles=[("gauge", "length")])
        claim = ("told", within(("sum", spot_form(("bore", 0, 2)), (1,)), 10, 45))
        rows = [("cert", "bore", 0, 0, 0, 0, "ground", 0, 20, 30), claim, ("jolt", "bore", 1), ("stand", "gauge", "ring", 0, 2), ("read", "bore", "gauge", 2, 3), ("stand", "gauge", "dial", 0, 2)]
        book = Book.of(charter, [(0, one) for one in rows])
        self.assertEqual(history(book, 1), ("stands", "denied", "denied", "stands", "denied"))
        self.assertEqual(blame(book, 1), 2)

    def test_states_by_their_words(self):
        rng = random.Random(40)
        seen = set()
        for _ in range(25):
            book = Book(KEEPER)
            tellings = []
            for number in range(14):
                kind = rng.random()
                if kind < 0.3 and number:
                    book.enter(0, ("strike", rng.randrange(number)))
                elif kind < 0.6:
                    low = rng.randint(0, 60)
                    tellings.append(book.enter(0, ("told", within(("sum", spot_form(("bore", 0, rng.randint(0, 2))), (1, 0)), low, low + rng.randint(20, 60)))))
                else:
                    low = rng.randint(0, 60)
                    book.enter(0, ("cert", "bore", 0, 0, rng.randint(0, 1), rng.randint(1, 2), "ground", 0, low, low + rng.randint(10, 30)))
            for number in tellings:
                told = []
                for moment in range(number + 1, len(book) + 1):
                    web = web_of(book, moment)
                    if number not in book.in_force(moment):
                        word = "struck"
                    elif web.bad_ring() is not None:
                        word = "clash"
                    else:
                        word = "stands" if denying(web, book[number][1][1]) is None else "denied"
                    self.assertEqual(state(book, number, moment), word)
                    told.append(word)
                self.assertEqual(history(book, number), tuple(told))
                self.assertEqual(blame(book, number), number + told.index("denied") if "denied" in told else None)
                seen |= set(told)
        self.assertEqual(seen, {"struck", "clash", "denied", "stands"})

    def test_no_moment_ahead_of_no_telling(self):
        book = book_of(NARROW, TOLD)
        for moment in (-1, 3, "1", True, False, 1.0, ()):
            for number in (1, 0, 9, None):
                self.raises(NoMoment, lambda: state(book, number, moment), moment=moment)

    def test_no_telling(self):
        book = book_of(NARROW, TOLD, ("jolt", "dial", 1), ("strike", 1), TOLD)
        for number in (0, 2, 3, 5, -1, -4) + STRANGE:
            for call in (lambda: state(book, number), lambda: history(book, number), lambda: blame(book, number)):
                self.raises(NoTelling, call, number=number)
        # The moment must be behind it.
        for moment in (0, 1):
            self.raises(NoTelling, lambda: state(book, 1, moment), number=1)
        self.assertEqual(state(book, 1, 2), "stands")
        self.raises(NoTelling, lambda: state(book, 4, 4), number=4)
        self.assertEqual(state(book, 4, 5), "stands")
        self.raises(NoTelling, lambda: state(Book(KEEPER), 0), number=0)

    def test_the_book_stays(self):
        book = book_of(NARROW, TOLD, ("strike", 0))
        before = tuple(book)
        state(book, 1)
        history(book, 1)
        blame(book, 1)
        Fallen(book)
        self.assertEqual(tuple(book), before)


def claims(*numbers):
    """Tellings that the bore is at most so many grains."""
    return [("told", within(("sum", spot_form(BORE), (1, 0)), 0, number)) for number in numbers]


class FallenTellings(WebCase):
    # Of 20 to 30: the tellings 1, 3, 5 say too little, 2 is struck.
    BOOK = book_of(NARROW, *claims(29, 25, 10, 30, 29), ("strike", 2))

    def test_in_force_and_denied(self):
        fallen = Fallen(self.BOOK)
        self.assertEqual(len(fallen), 3)
        self.assertEqual([number for number, _ in fallen], [1, 3, 5])
        web = web_of(self.BOOK)
        for pair in fallen:
            self.assertIs(type(pair), tuple)
            number, world = pair
            self.is_world(web, world)
            self.assertTrue(denies(world, self.BOOK[number][1][1]))
        for number in (1, 3, 5):
            self.assertIn(number, fallen)
        for number in (0, 2, 4, 6, 7, -1, True, 1.0, "1", None, (), [], (1,)):
            self.assertNotIn(number, fallen)
        self.assertIs(bool(fallen), True)
        # It can be gone through again and again.
        self.assertEqual(list(fallen), list(fallen))

    def test_at_moments(self):
        told = {0: [], 1: [], 2: [1], 3: [1, 2], 4: [1, 2, 3], 5: [1, 2, 3], 6: [1, 2, 3, 5], 7: [1, 3, 5], None: [1, 3, 5]}
        for moment, numbers in told.items():
            fallen = Fallen(self.BOOK, moment)
            self.assertEqual([number for number, _ in fallen], numbers)
            self.assertEqual((len(fallen), bool(fallen)), (len(numbers), numbers != []))
            self.assertEqual(fallen.moment, 7 if moment is None else moment)
            for number, world in fallen:
                self.is_world(web_of(self.BOOK, moment), world)

    def test_none(self):
        for book in (Book(KEEPER), book_of(NARROW), book_of(NARROW, *claims(30, 99))):
            fallen = Fallen(book)
            self.assertEqual((len(fallen), list(fallen), bool(fallen)), (0, [], False))
            self.assertNotIn(0, fallen)

    def test_the_book_is_a_copy(self):
        book = book_of(NARROW, *claims(29))
        fallen = Fallen(book, 1)
        self.assertEqual(fallen.book, book)
        self.assertIsNot(fallen.book, book)
        self.assertEqual(fallen.moment, 1)
        fallen = Fallen(book)
        self.assertEqual((fallen.moment, type(fallen.moment)), (2, int))
        book.enter(0, ("strike", 1))
        self.assertEqual((len(fallen.book), fallen.moment, 1 in fallen), (2, 2, True))
        fallen.book.enter(0, ("strike", 0))
        self.assertEqual((len(book), book[2]), (3, (0, ("strike", 1))))

    def test_errors(self):
        book = book_of(NARROW, OTHER, TOLD)
        for moment in (-1, 4, "1", True, 1.0):
            self.raises(NoMoment, lambda: Fallen(book, moment), moment=moment)
        for moment in (2, 3, None):
            self.is_ring(web_of(book, moment), self.raises(Clash, lambda: Fallen(book, moment)).ring)
        self.assertEqual(len(Fallen(book, 1)), 0)

    def test_it_is_as_states_tell(self):
        rng = random.Random(41)
        for _ in range(20):
            book = Book(KEEPER)
            for number in range(10):
                low = rng.randint(0, 50)
                cert = ("cert", "bore", 0, 0, 1, 1, "ground", 0, low, low + rng.randint(20, 50))
                book.enter(0, rng.choice([cert, *claims(rng.randint(20, 90)), *claims(rng.randint(20, 90)), ("strike", rng.randrange(number)) if number else cert]))
            for moment in book.moments():
                if web_of(book, moment).bad_ring() is None:
                    numbers = [number for number in range(moment) if book[number][1][0] == "told" and state(book, number, moment) == "denied"]
                    self.assertEqual([number for number, _ in Fallen(book, moment)], numbers)


class Speed(WebCase):
    def test_a_book_of_sixty_news(self):
        charter = Charter(
            days=20, bases=("length",), devices=[device(name, fall=3, rise=2, steep=4, slack=20, cuts=(3, 6)) for name in ("dial", "ring", "rule")],
            features=[feature(name, fall=1, rise=2) for name in ("bore", "slot")], roles=[("gauge", "length")],
        )
        book = Book(charter)
        for number in range(30):
            book.enter(0, ("cert", ("dial", "ring", "rule")[number % 3], 0, 2, 0, 19, "ground", 0, -40, 40 - number))
        for number in range(30):
            x = spot_form(("bore", 0, number % 20), (("slot", 0, 3), (2, 3)), (("dial", number % 3, 5), (-1, 1)))
            quantity = ("sum", x, (1,)) if number % 2 else ("product", x, spot_form(("slot", 0, number % 20)), (1, 1), (2,))
            book.enter(0, ("told", within(quantity, -100, 100 + 50 * number)))
        start = time.time()
        self.assertGreater(len(Fallen(book)), 10)
        self.assertEqual(len(history(book, 30)), 30)
        self.assertLess(time.time() - start, 10)


if __name__ == "__main__":
    unittest.main()
