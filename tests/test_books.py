"""[11], [12] books, their news and how it is judged; [13] what is in force; [1] what a refusal leaves behind."""

import random
import unittest

from ellwarden.books import Book
from ellwarden.errors import BadDay, BadNews, NoMoment, NoNews, TooMany
from samples import STRANGE, Case, charter, keeper, spot_form, swapped

KEEPER = keeper()
BORE, SLOT, BEAT = ("bore", 0, 1), ("slot", 0, 2), ("beat", 0, 0)
DIAL, CLOCK = ("dial", 2, 0), ("clock", 1, 2)
LENGTH, TIME = (1, 0), (0, 1)
SIZE = 10 ** 9
CERT = ("cert", "dial", 0, 2, 0, 2, "ring", 0, -5, 5)
READ = ("read", "bore", "gauge", 1, 4)
STAND = ("stand", "gauge", "dial", 0, 2)
JOLT = ("jolt", "dial", 1)
EDITION = ("edition", "fit", "first", 0, 2)
TOLD = ("told", ("within", ("sum", spot_form(BORE), LENGTH), (0, 1), (5, 1)))
EACH = (CERT, READ, STAND, JOLT, EDITION, TOLD)
DAYS = (-1, 3, 99)


def told(quantity, word="within"):
    return ("told", (word, quantity, (0, 1), (5, 1)))


class NewsCase(Case):
    def setUp(self):
        self.book = Book(KEEPER)

    def fine(self, *rows):
        for news in rows:
            number = len(self.book)
            self.assertEqual(self.book.enter(0, news), number)
            self.assertEqual(self.book[number], (0, news))
            self.book = Book(KEEPER)

    def refused(self, place, *rows):
        """BadNews with this place, and the book as it was."""
        for news in rows:
            kept = list(self.book)
            self.raises(BadNews, lambda: self.book.enter(0, news), place=place)
            self.assertEqual(list(self.book), kept)

    def strange(self, news, place, *things):
        """Refused for whatever else than what is told stands at a place, alone and ahead of other faults."""
        for thing in STRANGE + things:
            self.refused(place, swapped(news, place, thing))
            if place + 1 < len(news):
                self.refused(place, swapped(news, place, thing)[:place + 1] + (None,) * (len(news) - place - 1))


class Forms(NewsCase):
    def test_no_tuple_and_no_word(self):
        self.refused(0, None, 5, "read", "strike", True, [], (), [0], {}, b"", *[list(news) for news in EACH], ["strike", 0], ("reads", 1), (None,))
        for news in EACH + (("strike", 0),):
            for word in STRANGE + ("Read", "news", "reading", "nobody", "within", 0):
                self.refused(0, swapped(news, 0, word))

    def test_another_number_of_items(self):
        for news in EACH + (("strike", 0),):
            self.refused(0, news[:1], news[:-1], news + (0,), news + news)
        self.refused(0, ("strike",), ("strike", 0, 0), ("strike", 9, 9))

    def test_the_right_word_with_the_number_of_another(self):
        self.refused(0, ("cert",) + READ[1:], ("jolt",) + STAND[1:], ("read",) + JOLT[1:], ("told", "bore", 1), ("strike",) + JOLT[1:])


class Certificates(NewsCase):
    def test_good_at_each_bound(self):
        self.fine(
            CERT, ("cert", "dial", 0, 0, 0, 0, "ring", 0, 0, 0), ("cert", "dial", 2, 2, 2, 2, "ground", 0, -SIZE, SIZE), ("cert", "dial", 1, 2, 1, 2, "bore", 0, SIZE, SIZE),
            ("cert", "bore", 0, 0, 0, 2, "dial", 2, -SIZE, -SIZE), ("cert", "bore", 0, 0, 0, 2, "slot", 0, 5, 6), ("cert", "ring", 0, 0, 2, 2, "dial", 1, -1, 0),
            ("cert", "clock", 0, 1, 0, 2, "beat", 0, -1, 1), ("cert", "beat", 0, 0, 1, 1, "clock", 1, 3, 3), ("cert", "beat", 0, 0, 0, 0, "ground", 0, 1, 2),
        )

    def test_thing(self):
        self.strange(CERT, 1, "gauge", "fit", "first", "length", "mm", "ground", "nobody", "dials", "Dial", 0)

    def test_stretches(self):
        self.strange(CERT, 2, -1, 3, "0")
        self.strange(CERT, 3, -1, 3, "2")
        self.strange(("cert", "bore", 0, 0, 0, 2, "ring", 0, -5, 5), 2, 1)
        self.strange(("cert", "bore", 0, 0, 0, 2, "ring", 0, -5, 5), 3, 1)
        self.refused(3, swapped(swapped(CERT, 2, 1), 3, 0), swapped(swapped(CERT, 2, 2), 3, 1))

    def test_days(self):
        self.strange(CERT, 4, *DAYS, "0")
        self.strange(CERT, 5, *DAYS, "0")
        self.refused(5, swapped(swapped(CERT, 4, 1), 5, 0), swapped(swapped(CERT, 4, 2), 5, 1))

    def test_other(self):
        self.strange(CERT, 6, "dial", "clock", "beat", "gauge", "first", "length", "nobody", "rings", "Ground", 0)
        self.strange(("cert", "beat", 0, 0, 0, 0, "clock", 0, 0, 0), 6, "beat", "bore", "dial", "timer")
        self.refused(6, ("cert", "bore", 0, 0, 0, 0, "beat", 0, 0, 0), ("cert", "bore", 0, 0, 0, 0, "bore", 0, 0, 0))

    def test_its_stretch(self):
        self.strange(CERT, 7, -1, 1, "0")
        self.strange(("cert", "bore", 0, 0, 0, 2, "dial", 2, -5, 5), 7, -1, 3)
        self.strange(("cert", "dial", 0, 0, 0, 2, "ground", 0, -5, 5), 7, -1, 1)
        self.refused(7, ("cert", "ring", 0, 0, 0, 2, "bore", 1, -5, 5), ("cert", "ring", 0, 0, 0, 2, "dial", 3, -5, 5))

    def test_sizes(self):
        self.strange(CERT, 8, SIZE + 1, -SIZE - 1, "0")
        self.strange(CERT, 9, SIZE + 1, -SIZE - 1, -6, "0")
        self.refused(9, swapped(swapped(CERT, 8, 1), 9, 0), swapped(swapped(CERT, 8, SIZE), 9, SIZE - 1))


class Readings(NewsCase):
    def test_good_at_each_bound(self):
        self.fine(
            READ, ("read", "bore", "gauge", 0, -1000), ("read", "slot", "gauge", 2, 1000), ("read", "beat", "timer", 1, 0),
            # What the device shows, and who stands there, is no matter here.
            ("read", "bore", "gauge", 0, 999),
        )

    def test_feature(self):
        self.strange(READ, 1, "dial", "gauge", "fit", "length", "ground", "nobody", "bores", 0)

    def test_role(self):
        self.strange(READ, 2, "timer", "dial", "bore", "first", "length", "nobody", "gauges", 0)
        self.strange(("read", "beat", "timer", 0, 0), 2, "gauge")

    def test_day_and_mark(self):
        self.strange(READ, 3, *DAYS, "1")
        self.strange(READ, 4, -1001, 1001, "4")


class Stands(NewsCase):
    def test_good_at_each_bound(self):
        self.fine(STAND, ("stand", "gauge", "ring", 2, 2), ("stand", "gauge", "nobody", 0, 0), ("stand", "timer", "clock", 1, 2), ("stand", "timer", "nobody", 0, 2))

    def test_role(self):
        self.strange(STAND, 1, "dial", "bore", "fit", "length", "nobody", "ground", 0)

    def test_device(self):
        self.strange(STAND, 2, "clock", "bore", "gauge", "first", "ground", "Nobody", 0)
        self.strange(("stand", "timer", "clock", 0, 0), 2, "dial", "ring")

    def test_days(self):
        self.strange(STAND, 3, *DAYS, "0")
        self.strange(STAND, 4, *DAYS, "0")
        self.refused(4, swapped(swapped(STAND, 3, 2), 4, 1), swapped(swapped(STAND, 3, 1), 4, 0))


class Jolts(NewsCase):
    def test_good_at_each_bound(self):
        self.fine(JOLT, ("jolt", "dial", 2), ("jolt", "bore", 1), ("jolt", "clock", 2))

    def test_each_place(self):
        self.strange(JOLT, 1, "gauge", "fit", "first", "ground", "nobody", 0)
        self.strange(JOLT, 2, 0, -1, 3, "1")

    def test_no_jolt_in_a_house_of_one_day(self):
        self.book = Book(keeper(days=1))
        for day in (0, 1):
            self.refused(2, ("jolt", "dial", day))


class Editions(NewsCase):
    def test_good_at_each_bound(self):
        self.fine(EDITION, ("edition", "weigh", "second", 2, 2), ("edition", "fit", "nobody", 0, 0), ("edition", "weigh", "nobody", 1, 2))

    def test_each_place(self):
        self.strange(EDITION, 1, "first", "gauge", "dial", "nobody", "length", 0)
        self.strange(EDITION, 2, "fit", "gauge", "dial", "ground", "third", 0)
        self.strange(EDITION, 3, *DAYS, "0")
        self.strange(EDITION, 4, *DAYS, "0")
        self.refused(4, ("edition", "fit", "first", 2, 1))


class Strikes(NewsCase):
    def no_news(self, number):
        kept = list(self.book)
        self.raises(NoNews, lambda: self.book.enter(0, ("strike", number)), number=number)
        self.assertEqual(list(self.book), kept)

    def test_in_an_empty_book(self):
        for number in (0, 1, -1) + STRANGE:
            self.no_news(number)

    def test_itself_and_what_is_not_there(self):
        self.book.enter(0, READ)
        self.book.enter(0, JOLT)
        for number in (2, 3, 99, -1, -2, "0") + STRANGE:
            self.no_news(number)

    def test_of_each_news_and_of_a_strike(self):
        for news in EACH:
            self.book.enter(0, news)
        for number in range(len(EACH) * 2):
            self.assertEqual(self.book.enter(0, ("strike", number)), len(EACH) + number)
        self.assertEqual(self.book.enter(0, ("strike", 0)), len(EACH) * 3)


class Tellings(NewsCase):
    def test_claims_of_every_kind(self):
        bare = ((), (5, 2))
        for word in ("within", "passed", "failed"):
            self.fine(
                told(("sum", spot_form(BORE), LENGTH), word), told(("sum", spot_form(BORE, (SLOT, (-2, 3)), DIAL, rest=(7, 1)), LENGTH), word),
                told(("sum", spot_form(BEAT, CLOCK), TIME), word), told(("sum", bare, LENGTH), word), told(("sum", bare, (9, -9)), word),
                told(("sum", bare, (0, 0)), word), told(("product", spot_form(BORE, DIAL), spot_form(BEAT), (1, 2), (1, 1)), word),
                told(("product", spot_form(BORE), bare, (0, 1), (5, 5)), word), told(("quotient", bare, spot_form(CLOCK), (-1, 1), (-9, 9)), word),
                told(("quotient", spot_form(BEAT), spot_form(BORE, SLOT), (1, 1), (0, 0)), word), told(("quotient", bare, ((), (0, 1)), (1, 1), (0, 0)), word),
            )

    def test_spots_at_each_bound(self):
        for spot in (("dial", 0, 0), ("dial", 2, 2), ("ring", 0, 2), ("bore", 0, 2)):
            self.fine(told(("sum", spot_form(spot), LENGTH)))
        for spot in (
            ("dial", 3, 0), ("dial", -1, 0), ("dial", 0, 3), ("dial", 0, -1), ("bore", 1, 0), ("bore", 0, 3), ("ring", 1, 0), ("gauge", 0, 0), ("first", 0, 0),
            ("mm", 0, 0), ("length", 0, 0), ("ground", 0, 1), ("ground", 1, 0), ("nobody", 0, 0), ("bores", 0, 0), ("", 0, 0),
        ):
            form = spot_form(spot)
            for quantity in (
                ("sum", form, LENGTH), ("product", form, spot_form(BORE), (1, 1), LENGTH), ("product", spot_form(BORE), form, (1, 1), LENGTH),
                ("quotient", spot_form(BEAT), form, (1, 1), LENGTH), ("sum", spot_form(BORE, spot), LENGTH),
            ):
                self.refused(1, told(quantity))

    def test_the_ground_is_no_spot_of_a_claim(self):
        for form in (((("ground", 0, 0), (1, 1)),), (0, 1)), ((("bore", 0, 0), (1, 1)), (("ground", 0, 0), (1, 1))):
            self.refused(1, told(("sum", form, LENGTH)))
        self.refused(1, told(("sum", (((("bore", 0, 0), (1, 1)), (("ground", 0, 0), (1, 1))), (0, 1)), LENGTH)))

    def test_spots_of_two_bases(self):
        both = spot_form(BORE, CLOCK)
        self.refused(1, told(("sum", both, LENGTH)), told(("sum", both, TIME)), told(("sum", spot_form(BEAT, DIAL), LENGTH)))
        for word in ("product", "quotient"):
            self.refused(1, told((word, both, spot_form(BORE), (1, 1), (1, 1))), told((word, spot_form(BORE), both, (1, 1), (1, 1))))
        self.refused(1, told(("product", spot_form(BORE, DIAL, SLOT, BEAT), ((), (1, 1)), (1, 1), (1, 1))))

    def test_dimensions(self):
        for dimension in (TIME, (0, 0), (2, 0), (1, 1), (-1, 0), (1,), (1, 0, 0), (1, 0, 0, 0)):
            self.refused(1, told(("sum", spot_form(BORE), dimension)))
        for dimension in ((1,), (1, 0, 0), (0,), (0, 0, 0, 0)):
            self.refused(1, told(("sum", ((), (1, 1)), dimension)), told(("product", spot_form(BORE), spot_form(BORE), (1, 1), dimension)))
            self.refused(1, told(("quotient", spot_form(BORE), spot_form(BORE), (1, 1), dimension)))

    def test_what_is_no_claim(self):
        claim = TOLD[1]
        for thing in STRANGE + ("within", list(claim), claim[:3], swapped(claim, 0, "open"), swapped(claim, 2, (6, 1)), swapped(claim, 2, 0), ("passed", claim[1], (1, 1), (1, 1))):
            self.refused(1, ("told", thing))
        self.refused(1, told(("sum", list(spot_form(BORE)), LENGTH)), told(("sum", spot_form(("bore", 0, True)), LENGTH)))


class Order(NewsCase):
    def test_the_first_bad_place(self):
        for news in (CERT, READ, STAND, JOLT, EDITION):
            for place in range(1, len(news)):
                bad = news[:place] + (None,) * (len(news) - place)
                self.refused(place, bad)

    def test_a_day_ahead_of_too_many_ahead_of_bad_news(self):
        for _ in range(60):
            self.book.enter(1, JOLT)
        kept = list(self.book)
        for day in (0, -1, 3, "1") + STRANGE:
            self.raises(BadDay, lambda: self.book.enter(day, None), day=day)
            self.raises(BadDay, lambda: self.book.enter(day, JOLT), day=day)
        for news in (None, JOLT, ("strike", 99)):
            self.raises(TooMany, lambda: self.book.enter(1, news), kind="news")
        self.assertEqual(list(self.book), kept)
        book = self.book.cut(59)
        self.raises(BadDay, lambda: book.enter(0, None), day=0)
        self.raises(BadNews, lambda: book.enter(1, None), place=0)
        self.raises(NoNews, lambda: book.enter(1, ("strike", 59)), number=59)
        self.assertEqual(book.enter(2, ("strike", 58)), 59)
        self.raises(TooMany, lambda: book.enter(2, JOLT), kind="news")

    def test_60_news(self):
        self.assertEqual(Book.MOST, 60)
        for number in range(60):
            self.assertEqual(self.book.enter(0, READ), number)
        self.raises(TooMany, lambda: self.book.enter(0, READ), kind="news")
        self.assertEqual(len(self.book), 60)

    def test_known_days_never_go_down(self):
        for day in (0, 0, 1):
            self.book.enter(day, READ)
        self.raises(BadDay, lambda: self.book.enter(0, READ), day=0)
        self.assertEqual(self.book.enter(1, READ), 3)
        # A refusal is no news: this day is not known.
        self.raises(BadNews, lambda: self.book.enter(2, None), place=0)
        self.assertEqual(self.book.enter(1, READ), 4)
        self.assertEqual(self.book.enter(2, READ), 5)
        self.raises(BadDay, lambda: self.book.enter(1, READ), day=1)

    def test_news_of_any_day_whenever_it_comes(self):
        self.book.enter(2, READ)
        self.book.enter(2, ("read", "bore", "gauge", 0, 1))
        self.book.enter(2, ("stand", "gauge", "dial", 0, 0))
        book = Book(KEEPER)
        book.enter(0, ("read", "bore", "gauge", 2, 1))


class Books(NewsCase):
    PAIRS = ((0, READ), (0, STAND), (2, ("strike", 0)))

    def test_numbers_len_iteration(self):
        book = Book.of(KEEPER, self.PAIRS)
        self.assertIs(book.charter, KEEPER)
        self.assertEqual(len(book), 3)
        self.assertEqual(len(self.book), 0)
        self.assertEqual(tuple(book), self.PAIRS)
        self.assertEqual(list(self.book), [])
        for number, pair in enumerate(self.PAIRS):
            self.assertEqual(book[number], pair)
            self.assertIs(type(book[number]), tuple)
        for number in (3, 4, -1, -3, "0", slice(0, 1)) + STRANGE:
            self.raises(NoNews, lambda: book[number], number=number)
        self.raises(NoNews, lambda: self.book[0], number=0)

    def test_equal(self):
        book = Book.of(KEEPER, self.PAIRS)
        self.assertTrue(book == Book.of(keeper(), list(self.PAIRS)))
        self.assertFalse(book != Book.of(keeper(), list(self.PAIRS)))
        for other in (
            Book.of(KEEPER, self.PAIRS[:2]), Book.of(KEEPER, ((0, READ), (1, STAND), (2, ("strike", 0)))), Book.of(KEEPER, ((0, READ), (0, STAND), (2, ("strike", 1)))),
            Book.of(keeper(days=4), self.PAIRS), Book(KEEPER), list(self.PAIRS), self.PAIRS, None, KEEPER,
        ):
            self.assertFalse(book == other)
            self.assertTrue(book != other)

    def test_of(self):
        self.assertEqual(Book.of(KEEPER, ()), Book(KEEPER))
        self.raises(BadNews, lambda: Book.of(KEEPER, [(0, READ), (0, None), (9, None)]), place=0)
        self.raises(BadDay, lambda: Book.of(KEEPER, [(1, READ), (0, None)]), day=0)
        self.raises(NoNews, lambda: Book.of(KEEPER, [(1, ("strike", 0))]), number=0)
        self.raises(TooMany, lambda: Book.of(KEEPER, [(0, READ)] * 61), kind="news")
        self.assertEqual(len(Book.of(KEEPER, [(0, READ)] * 60)), 60)

    def test_the_rows_of_the_caller_are_copied(self):
        pairs = [(0, READ)]
        book = Book.of(KEEPER, pairs)
        pairs.append((0, STAND))
        self.assertEqual(len(book), 1)
        rows = list(book)
        rows.clear()
        self.assertEqual(len(book), 1)

    def test_moment_of(self):
        book = Book.of(charter(days=20, procedures=(), jobs=()), [(day, ("jolt", "bore", 3)) for day in (2, 2, 3, 7, 7, 7)])
        for day, moment in ((0, 0), (1, 0), (2, 2), (3, 3), (4, 3), (6, 3), (7, 6), (8, 6), (19, 6)):
            self.assertEqual(book.moment_of(day), moment)
        for day in (-1, 20, "2") + STRANGE:
            self.raises(BadDay, lambda: book.moment_of(day), day=day)
        self.assertEqual(self.book.moment_of(0), 0)

    def test_moments(self):
        self.assertEqual(list(self.book.moments()), [0])
        self.assertEqual(list(Book.of(KEEPER, self.PAIRS).moments()), [0, 1, 2, 3])
        moments = self.book.moments()
        self.book.enter(0, READ)
        # A generator does nothing before it is iterated.
        self.assertEqual(list(moments), [0, 1])

    def test_cut_and_copy(self):
        book = Book.of(KEEPER, self.PAIRS)
        for moment in range(4):
            self.assertEqual(book.cut(moment), Book.of(KEEPER, self.PAIRS[:moment]))
        self.assertEqual(book.cut(None), book)
        for moment in (-1, 4, "1") + STRANGE[1:]:
            self.raises(NoMoment, lambda: book.cut(moment), moment=moment)

    def test_copies_go_on_by_themselves(self):
        book = Book.of(KEEPER, self.PAIRS)
        for made in (book.copy(), book.cut(3), book.cut(None)):
            self.assertIsNot(made, book)
            made.enter(2, JOLT)
            self.assertEqual((len(made), len(book)), (4, 3))
        made = book.copy()
        book.enter(2, STAND)
        self.assertEqual(tuple(made), self.PAIRS)
        cut = book.cut(1)
        # What becomes known later in the book is not known in the cut.
        self.assertEqual(cut.enter(1, JOLT), 1)
        self.assertEqual(len(book), 4)


def is_in_force(rows, moment, number):
    """As it is told, word for word."""
    for later in range(number + 1, moment):
        if rows[later] == ("strike", number) and is_in_force(rows, moment, later):
            return False
    return True


class InForce(NewsCase):
    def entered(self, *rows):
        for news in rows:
            self.book.enter(0, news)
        return self.book

    def test_without_strikes(self):
        self.assertEqual(self.book.in_force(), ())
        book = self.entered(READ, JOLT, STAND)
        self.assertEqual(book.in_force(), (0, 1, 2))
        self.assertEqual([book.in_force(moment) for moment in range(4)], [(), (0,), (0, 1), (0, 1, 2)])
        self.assertEqual(book.in_force(None), (0, 1, 2))

    def test_strikes_of_strikes_of_strikes(self):
        book = self.entered(READ, ("strike", 0), ("strike", 1), ("strike", 2), ("strike", 3))
        self.assertEqual([book.in_force(moment) for moment in range(6)], [(), (0,), (1,), (0, 2), (1, 3), (0, 2, 4)])

    def test_several_strikes_of_one_news(self):
        book = self.entered(READ, ("strike", 0), ("strike", 0), ("strike", 1), ("strike", 2))
        self.assertEqual([book.in_force(moment) for moment in range(6)], [(), (0,), (1,), (1, 2), (2, 3), (0, 3, 4)])

    def test_a_strike_that_is_struck_later(self):
        book = self.entered(READ, JOLT, ("strike", 0), STAND, ("strike", 2), ("strike", 1))
        self.assertEqual(book.in_force(4), (1, 2, 3))
        self.assertEqual(book.in_force(5), (0, 1, 3, 4))
        self.assertEqual(book.in_force(), (0, 3, 4, 5))

    def test_no_moment(self):
        book = self.entered(READ, JOLT)
        for moment in (-1, 3, "0", (0,)) + STRANGE[1:]:
            self.raises(NoMoment, lambda: book.in_force(moment), moment=moment)

    def test_as_told_and_not_changed_by_what_comes_later(self):
        rng = random.Random(13)
        for _ in range(40):
            book = Book(KEEPER)
            rows = []
            kept = [()]
            for number in range(25):
                rows.append(("strike", rng.randint(0, number - 1)) if number and rng.random() < 0.75 else rng.choice(EACH))
                book.enter(0, rows[-1])
                kept.append(book.in_force())
            for moment, found in enumerate(kept):
                self.assertEqual(found, tuple(number for number in range(moment) if is_in_force(rows, moment, number)))
                self.assertEqual(book.in_force(moment), found)
                self.assertEqual(book.cut(moment).in_force(), found)


if __name__ == "__main__":
    unittest.main()
