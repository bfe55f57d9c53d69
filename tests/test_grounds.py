"""[41] claims that are borne, grounds, what a claim leans on, fellings; [42] doubts."""

import itertools
import random
import time
import unittest

from ellwarden.books import Book
from ellwarden.bookwebs import bearing, web_of, web_without
from ellwarden.charters import Charter
from ellwarden.errors import Clash, NoMoment, NoNews, NoSpot, TooMany
from ellwarden.grounds import bears, doubts, felling, ground, grounds, leaning
from ellwarden.standing import denying
from samples import STRANGE, device, feature, keeper, spot_form
from test_standing import limits, within
from test_webs import WebCase

KEEPER = keeper()
BORE = ("sum", spot_form(("bore", 0, 1)), (1, 0))
SLOT = ("sum", spot_form(("slot", 0, 1)), (1, 0))
ANY = within(BORE, 0, 100)


def cert(low, high, thing="bore", other="ground"):
    return ("cert", thing, 0, 0, 1, 1, other, 0, low, high)


def book_of(*rows, charter=KEEPER):
    return Book.of(charter, [(0, news) for news in rows])


def subsets(numbers):
    return [row for many in range(len(numbers) + 1) for row in itertools.combinations(numbers, many)]


def plain_bears(book, numbers, claim, moment=None):
    """As it is told."""
    others = [number for number in bearing(book, moment) if number not in numbers]
    return denying(web_without(book, others, moment), claim) is None


def plain_grounds(book, claim, moment=None):
    borne = [row for row in subsets(bearing(book, moment)) if plain_bears(book, row, claim, moment)]
    return tuple(row for row in borne if not any(set(other) < set(row) for other in borne))


class GroundCase(WebCase):
    def are_grounds(self, book, claim, *told, moment=None):
        """These are the grounds, and all else follows from them."""
        found = grounds(book, claim, moment)
        self.assertEqual(found, told)
        self.assertIs(type(found), tuple)
        self.assertEqual(ground(book, claim, moment), told[0] if told else None)
        numbers = bearing(book, moment)
        stands = plain_bears(book, numbers, claim, moment)
        self.assertEqual(stands, told != ())
        for row in subsets(numbers):
            borne = any(set(least) <= set(row) for least in told)
            self.assertIs(bears(book, row, claim, moment), borne)
        leans = tuple(number for number in numbers if all(number in row for row in told)) if stands else ()
        self.assertEqual(leaning(book, claim, moment), leans)
        fells = [row for row in subsets(numbers) if all(set(row) & set(least) for least in told)]
        self.assertEqual(felling(book, claim, moment), fells[0] if fells else None)
        if fells:
            rest = [number for number in numbers if number not in fells[0]]
            self.assertFalse(bears(book, rest, claim, moment))


class Bearing(GroundCase):
    BOOK = book_of(cert(20, 60), cert(10, 50), cert(30, 90))

    def test_all_none_and_some(self):
        claim = within(BORE, 20, 50)
        for numbers, told in (((0, 1, 2), True), ((), False), ((0,), False), ((1,), False), ((0, 1), True), ((1, 2), True), ((0, 2), False)):
            for row in itertools.permutations(numbers):
                for made in (row, list(row), row + row, list(row[:1] + row)):
                    self.assertIs(bears(self.BOOK, made, claim), told)
        self.assertIs(bears(self.BOOK, [], ANY), True)
        self.assertIs(bears(Book(KEEPER), (), ANY), True)
        self.assertIs(bears(Book(KEEPER), [], claim), False)

    def test_no_news(self):
        book = book_of(cert(20, 60), ("jolt", "dial", 1), cert(10, 50), ("strike", 2), ("told", ANY))
        for number in (1, 2, 3, 4, 5, -1, -5) + STRANGE:
            self.raises(NoNews, lambda: bears(book, [number], ANY), number=number)
            self.raises(NoNews, lambda: bears(book, (0, number, 99), ANY), number=number)
        self.assertIs(bears(book, [2], ANY, 3), True)
        self.raises(NoNews, lambda: bears(book, [0, 2], ANY, 2), number=2)
        for number in (True, False, 0.0, 1.0):
            self.raises(NoNews, lambda: bears(self.BOOK, [0, number], ANY), number=number)

    def test_rows_stay(self):
        row = [2, 0, 2]
        bears(self.BOOK, row, ANY)
        self.assertEqual(row, [2, 0, 2])


class Grounds(GroundCase):
    def test_one_and_several(self):
        book = book_of(cert(20, 60), cert(10, 50), cert(30, 90))
        self.are_grounds(book, within(BORE, 30, 50), (1, 2))
        self.are_grounds(book, within(BORE, 20, 50), (0, 1), (1, 2))
        self.are_grounds(book, within(BORE, 20, 60), (0,), (1, 2))
        self.are_grounds(book, within(BORE, 0, 60), (0,), (1,))
        self.are_grounds(book, within(BORE, 10, 100), (0,), (1,), (2,))

    def test_none_and_the_empty_one(self):
        book = book_of(cert(20, 60), cert(10, 50))
        self.are_grounds(book, within(BORE, 30, 50))
        self.are_grounds(book, within(BORE, 21, 100))
        self.are_grounds(book, ANY, ())
        self.are_grounds(book, within(("sum", ((), (3, 1)), (1, 0)), 3, 3), ())
        self.are_grounds(book, within(("sum", ((), (3, 1)), (1, 0)), 4, 4))
        self.are_grounds(Book(KEEPER), ANY, ())
        self.are_grounds(Book(KEEPER), within(BORE, 0, 99))

    def test_ordered_by_length_then_as_tuples(self):
        # The bore is at most 50: by 4 alone, or by way of the slot.
        book = book_of(cert(0, 20, "slot"), cert(-30, 30, "bore", "slot"), cert(0, 10, "slot"), cert(-40, 40, "bore", "slot"), cert(0, 50))
        self.are_grounds(book, within(BORE, 0, 50), (4,), (0, 1), (1, 2), (2, 3))
        self.are_grounds(book, within(BORE, 0, 40), (1, 2))
        self.are_grounds(book, within(BORE, 0, 60), (4,), (0, 1), (0, 3), (1, 2), (2, 3))

    def test_kinds_of_claims(self):
        book = book_of(cert(20, 60), cert(10, 50), cert(30, 40, "slot"), cert(20, 90, "slot"))
        self.are_grounds(book, limits("passed", BORE, 50, 51), (1,))
        self.are_grounds(book, limits("failed", BORE, 19, 60), (0,))
        self.are_grounds(book, limits("passed", BORE, 60, 9), (0,), (1,))
        product = ("product", spot_form(("bore", 0, 1)), spot_form(("slot", 0, 1)), (1, 1), (2, 0))
        self.are_grounds(book, within(product, 600, 2000), (0, 1, 2))
        self.are_grounds(book, within(product, 400, 5000), (0, 2), (0, 1, 3))
        quotient = ("quotient", spot_form(("bore", 0, 1)), spot_form(("slot", 0, 1)), (1, 1), (0, 0))
        self.are_grounds(book, within(quotient, 0, 10), (2,), (3,))

    def test_strikes_stands_editions_and_jolts_hold_as_they_do(self):
        charter = Charter(days=3, bases=("length",), devices=[device("dial", least=-5, greatest=5), device("ring")], features=[feature("bore", fall=1, rise=1)], roles=[("gauge", "length")])
        claim = within(("sum", spot_form(("bore", 0, 1)), (1,)), 24, 46)
        rows = [("stand", "gauge", "dial", 0, 2), ("read", "bore", "gauge", 0, 4), ("cert", "bore", 0, 0, 2, 2, "ground", 0, 25, 45), ("jolt", "bore", 2), ("stand", "gauge", "nobody", 0, 2)]
        rows += [("strike", 3), ("strike", 4), ("strike", 1)]
        book = book_of(*rows, charter=charter)
        # The reading says 30 to 50, less or more by 5, and 1 a day.
        for moment, told in ((0, ()), (1, ()), (2, ()), (3, ((2,),)), (4, ()), (5, ()), (6, ((2,),)), (7, ((2,),)), (8, ((2,),))):
            self.are_grounds(book, claim, *told, moment=moment)
        wide = within(("sum", spot_form(("bore", 0, 1)), (1,)), 24, 56)
        for moment, told in ((2, ((1,),)), (3, ((1,), (2,))), (4, ((1,),)), (5, ()), (6, ((2,),)), (7, ((1,), (2,))), (8, ((2,),))):
            self.are_grounds(book, wide, *told, moment=moment)

    def test_a_read_that_says_nothing(self):
        book = book_of(("read", "bore", "gauge", 1, 4), cert(20, 60), ("stand", "gauge", "dial", 0, 2), ("read", "bore", "gauge", 1, 999))
        self.assertEqual(bearing(book), (0, 1, 3))
        claim = within(BORE, 20, 60)
        self.are_grounds(book, claim, (1,), moment=2)
        self.are_grounds(book, claim, (1,))
        self.assertIs(bears(book, [3], claim), False)
        self.assertIs(bears(book, [1, 3], claim), True)

    def test_random_books(self):
        rng = random.Random(41)
        several = 0
        for _ in range(40):
            book = Book(KEEPER)
            book.enter(0, ("stand", "gauge", "dial", 0, 2))
            for number in range(rng.randint(2, 7)):
                low = rng.randint(0, 30)
                news = [cert(low, low + rng.randint(40, 70), rng.choice(("bore", "slot"))), cert(-rng.randint(5, 30), rng.randint(5, 30), "bore", "slot"), cert(-rng.randint(5, 30), rng.randint(5, 30), "dial")]
                news += [("read", "bore", "gauge", 1, rng.randint(3, 5)), ("strike", number)]
                book.enter(0, rng.choice(news))
            for moment in (None, rng.randint(0, len(book))):
                if web_of(book, moment).bad_ring() is not None:
                    continue
                for _ in range(3):
                    low = rng.randint(0, 40)
                    quantity = rng.choice((BORE, SLOT, ("sum", spot_form(("bore", 0, 1), (("slot", 0, 2), (-1, 2))), (1, 0))))
                    claim = within(quantity, low - 40, low + rng.randint(20, 60))
                    told = plain_grounds(book, claim, moment)
                    several += len(told) > 1
                    self.are_grounds(book, claim, *told, moment=moment)
        self.assertGreater(several, 10)


class Leaning(GroundCase):
    def test_claims_that_stand_and_claims_that_are_denied(self):
        book = book_of(cert(20, 60), cert(10, 50), cert(30, 90))
        self.assertEqual(leaning(book, within(BORE, 30, 50)), (1, 2))
        self.assertEqual(leaning(book, within(BORE, 20, 50)), (1,))
        self.assertEqual(leaning(book, within(BORE, 20, 60)), ())
        self.assertEqual(leaning(book, within(BORE, 31, 50)), ())
        self.assertEqual(leaning(book, ANY), ())
        self.assertEqual(leaning(book, within(BORE, 20, 60), 1), (0,))

    def test_fellings(self):
        book = book_of(cert(20, 60), cert(10, 50), cert(30, 90))
        self.assertEqual(felling(book, within(BORE, 30, 50)), (1,))
        self.assertEqual(felling(book, within(BORE, 20, 60)), (0, 1))
        self.assertEqual(felling(book, within(BORE, 31, 50)), ())
        self.assertIsNone(felling(book, ANY))
        self.assertEqual(felling(book, within(BORE, 10, 100)), (0, 1, 2))
        self.assertIs(type(felling(book, within(BORE, 20, 60))), tuple)


class Errors(GroundCase):
    # 9 bearing news, then a clash among 9 and among 8.
    EIGHT = [cert(0, 90 - number) for number in range(8)]
    FUNCTIONS = (grounds, ground, leaning, felling)
    STRANGE_CLAIM = within(("sum", spot_form(("bore", 0, 1), ("bore", 0, 9)), (1, 0)), 0, 1)

    def calls(self, book, claim, moment=None):
        return [lambda call=call: call(book, claim, moment) for call in self.FUNCTIONS] + [lambda: bears(book, (), claim, moment)]

    def test_no_moment_first(self):
        nine = book_of(*self.EIGHT, cert(95, 99))
        for moment in (-1, 10, "1", True, False, 1.0, ()):
            for call in self.calls(nine, self.STRANGE_CLAIM, moment):
                self.raises(NoMoment, call, moment=moment)
            self.raises(NoMoment, lambda: bears(nine, [99], self.STRANGE_CLAIM, moment), moment=moment)
            self.raises(NoMoment, lambda: doubts(nine, moment), moment=moment)

    def test_no_news_ahead_of_what_is_behind(self):
        nine = book_of(*self.EIGHT, cert(95, 99))
        for claim in (self.STRANGE_CLAIM, ANY):
            self.raises(NoNews, lambda: bears(nine, [0, 9], claim), number=9)
        self.raises(NoNews, lambda: bears(book_of(*self.EIGHT, cert(0, 9)), [0, 9], ANY), number=9)
        self.raises(NoNews, lambda: bears(book_of(cert(0, 9), cert(10, 19)), [0, 9], ANY), number=9)

    def test_no_spot_ahead_of_a_clash_and_of_too_many(self):
        for book in (book_of(*self.EIGHT, cert(95, 99)), book_of(*self.EIGHT, cert(0, 9)), book_of(cert(0, 9), cert(10, 19)), Book(KEEPER)):
            for call in self.calls(book, self.STRANGE_CLAIM):
                self.raises(NoSpot, call, spot=("bore", 0, 9))
            for quantity, spot in (
                (("product", spot_form(("bore", 1, 0)), spot_form(("zzz", 0, 0)), (1, 1), (2, 0)), ("bore", 1, 0)), (("quotient", ((), (1, 1)), spot_form(("zzz", 0, 0)), (1, 1), (0, 0)), ("zzz", 0, 0)),
            ):
                for call in self.calls(book, within(quantity, 0, 1)):
                    self.raises(NoSpot, call, spot=spot)

    def test_a_clash_ahead_of_too_many(self):
        for book in (book_of(*self.EIGHT, cert(95, 99)), book_of(cert(0, 9), cert(10, 19))):
            for claim in (ANY, within(("sum", ((), (1, 1)), (1, 0)), 0, 1)):
                for call in self.calls(book, claim):
                    self.is_ring(web_of(book), self.raises(Clash, call).ring)

    def test_eight_and_nine_bearing_news(self):
        eight, nine = book_of(*self.EIGHT), book_of(*self.EIGHT, cert(0, 9))
        for claim in (ANY, within(BORE, 0, 8), within(BORE, 0, 50)):
            for call in self.calls(nine, claim):
                self.raises(TooMany, call, kind="news")
            self.raises(TooMany, lambda: bears(nine, range(9), claim), kind="news")
            for call in self.calls(eight, claim) + self.calls(nine, claim, 8):
                call()
        # Of those in force.
        struck = book_of(*self.EIGHT, cert(0, 9), ("strike", 0), ("told", ANY), ("jolt", "dial", 1))
        self.assertEqual(grounds(struck, within(BORE, 0, 9)), ((8,),))
        self.raises(TooMany, lambda: grounds(struck, ANY, 9), kind="news")
        # Those that say nothing count as well.
        silent = book_of(*self.EIGHT, ("read", "bore", "gauge", 0, 0))
        self.raises(TooMany, lambda: grounds(silent, ANY), kind="news")
        self.raises(TooMany, lambda: doubts(silent), kind="news")

    def test_doubts(self):
        self.assertEqual(doubts(book_of(*self.EIGHT)), ())
        for book in (book_of(*self.EIGHT, cert(95, 99)), book_of(*self.EIGHT, cert(0, 9))):
            self.raises(TooMany, lambda: doubts(book), kind="news")
            self.assertEqual(doubts(book, 8), ())


class Doubts(GroundCase):
    def are_doubts(self, book, told, moment=None):
        self.assertEqual(doubts(book, moment), told)
        self.assertIs(type(doubts(book, moment)), tuple)
        rows = [row for row in subsets(bearing(book, moment)) if web_without(book, row, moment).bad_ring() is None]
        self.assertEqual(rows[0], told)

    def test_none_one_and_several(self):
        self.are_doubts(Book(KEEPER), ())
        self.are_doubts(book_of(cert(20, 60), cert(10, 50)), ())
        book = book_of(cert(20, 60), cert(10, 19))
        self.are_doubts(book, (0,))
        self.are_doubts(book, (), 1)
        # One that clashes with all others.
        self.are_doubts(book_of(cert(20, 60), cert(10, 50), cert(70, 90), cert(30, 65)), (2,))
        # Pairs that clash, each without the others.
        self.are_doubts(book_of(cert(0, 10), cert(20, 30), cert(0, 10, "slot"), cert(20, 30, "slot")), (0, 2))
        self.are_doubts(book_of(cert(0, 10), cert(20, 30), cert(40, 50), cert(60, 70)), (0, 1, 2))

    def test_of_several_sets_the_first(self):
        self.are_doubts(book_of(cert(40, 50), cert(0, 10), cert(45, 55), cert(5, 15)), (0, 2))
        self.are_doubts(book_of(cert(0, 10), cert(40, 50), cert(45, 55), cert(5, 15)), (0, 3))

    def test_news_that_clashes_with_the_charter(self):
        self.are_doubts(book_of(cert(101, 200), cert(50, 60), cert(-9, -1)), (0, 2))

    def test_what_is_in_force(self):
        book = book_of(cert(0, 10), cert(20, 30), cert(25, 35), ("strike", 0), ("strike", 3))
        for moment, told in ((1, ()), (2, (0,)), (3, (0,)), (4, ()), (5, (0,))):
            self.are_doubts(book, told, moment)

    def test_rings_through_several_news(self):
        # By the first three the bore is 30 to 60 above the ring, by each of the others it is not.
        book = book_of(cert(10, 20, "bore", "slot"), cert(10, 20, "slot", "dial"), cert(10, 20, "dial", "ring"), cert(-20, 10, "bore", "ring"), cert(29, 99, "ring", "bore"))
        self.are_doubts(book, (0, 3))
        self.are_doubts(book, (0,), 4)

    def test_random_books(self):
        rng = random.Random(42)
        lengths = set()
        for _ in range(80):
            book = Book(KEEPER)
            for _ in range(rng.randint(2, 8)):
                low = rng.randint(0, 80)
                book.enter(0, rng.choice((cert(low, low + 10), cert(low, low + 10, "slot"), cert(low - 40, low - 30, "bore", "slot"))))
            told = doubts(book)
            lengths.add(len(told))
            self.are_doubts(book, told)
        self.assertGreater(len(lengths), 3)


class Speed(GroundCase):
    def test_eight_bearing_news(self):
        charter = Charter(
            days=20, bases=("length",), devices=[device(name, fall=3, rise=2, steep=4, slack=20, cuts=(3, 6)) for name in ("dial", "ring", "rule")],
            features=[feature(name, fall=1, rise=2) for name in ("bore", "slot")], roles=[("gauge", "length")],
        )
        book = Book(charter)
        for number in range(8):
            book.enter(0, ("cert", ("dial", "ring", "bore", "slot")[number % 4], 0, 0, number, number + 3, "ground", 0, 0, 40 + number))
        quantity = ("sum", spot_form(("bore", 0, 5), ("dial", 0, 4), ("slot", 0, 3), ("ring", 0, 2)), (1,))
        start = time.time()
        for most in (163, 170, 180, 240, 400):
            grounds(book, within(quantity, -900, most))
            felling(book, within(quantity, -900, most))
            leaning(book, within(quantity, -900, most))
        clash = Book.of(charter, [(0, ("cert", "bore", 0, 0, number, number, "ground", 0, 10 * number, 10 * number)) for number in range(8)])
        self.assertEqual(len(doubts(clash)), 7)
        self.assertLess(time.time() - start, 20)


if __name__ == "__main__":
    unittest.main()
