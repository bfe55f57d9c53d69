"""[14] the links of a book at a moment, and its web; [41], its first sentence: which news bears."""

import random
import unittest

from ellwarden.bookwebs import bearing, links_of, web_of, web_without
from ellwarden.books import Book
from ellwarden.errors import NoMoment
from ellwarden.marks import reading_links
from ellwarden.webs import Web
from ellwarden.worlds import GROUND
from samples import STRANGE, Case, device, feature, keeper

KEEPER = keeper()
OWN = KEEPER.own_links()
DIAL = KEEPER["dial"]
RING = KEEPER["ring"]
TOLD = ("told", ("within", ("sum", ((), (1, 1)), (1, 0)), (0, 1), (1, 1)))


def entered(*rows, charter=KEEPER):
    return Book.of(charter, [(0, news) for news in rows])


def dial(stretch, day):
    return ("dial", stretch, day)


class LinksCase(Case):
    def behind(self, book, *links, moment=None):
        """The links of the charter, and just these behind them."""
        self.assertEqual(links_of(book, moment), OWN + links)
        self.assertIs(type(links_of(book, moment)), tuple)
        web = web_of(book, moment)
        self.assertEqual(web, Web(KEEPER.all_spots(), OWN + links))


class Charters(LinksCase):
    def test_no_news(self):
        self.behind(entered())

    def test_news_without_links(self):
        self.behind(entered(("stand", "gauge", "dial", 0, 2), ("edition", "fit", "first", 0, 2), TOLD, ("strike", 0)))


class Certificates(LinksCase):
    def test_of_one_spot(self):
        why = ("news", 0)
        self.behind(entered(("cert", "dial", 1, 1, 2, 2, "ground", 0, -4, 5)), (GROUND, dial(1, 2), 5, why), (dial(1, 2), GROUND, 4, why))
        ring = ("ring", 0, 2)
        self.behind(entered(("cert", "dial", 1, 1, 2, 2, "ring", 0, 4, 5)), (ring, dial(1, 2), 5, why), (dial(1, 2), ring, -4, why))

    def test_stretches_then_days(self):
        why = ("news", 1)
        told = []
        for stretch in (0, 1, 2):
            for day in (1, 2):
                told += [(("bore", 0, day), dial(stretch, day), -1, why), (dial(stretch, day), ("bore", 0, day), 7, why)]
        self.behind(entered(TOLD, ("cert", "dial", 0, 2, 1, 2, "bore", 0, -7, -1)), *told)

    def test_of_a_feature_by_a_stretch_of_a_device(self):
        told = []
        for day in (0, 1, 2):
            told += [(dial(2, day), ("bore", 0, day), 9, ("news", 0)), (("bore", 0, day), dial(2, day), 9, ("news", 0))]
        self.behind(entered(("cert", "bore", 0, 0, 0, 2, "dial", 2, -9, 9)), *told)

    def test_the_ground_has_no_days(self):
        told = []
        for day in (0, 1):
            told += [(GROUND, ("slot", 0, day), 3, ("news", 0)), (("slot", 0, day), GROUND, -2, ("news", 0))]
        self.behind(entered(("cert", "slot", 0, 0, 0, 1, "ground", 0, 2, 3)), *told)

    def test_in_the_order_of_their_numbers(self):
        rows = [("cert", "ring", 0, 0, 1, 1, "ground", 0, 0, 1), ("cert", "dial", 0, 0, 0, 0, "ground", 0, 2, 3)]
        told = [(GROUND, ("ring", 0, 1), 1, ("news", 0)), (("ring", 0, 1), GROUND, 0, ("news", 0))]
        told += [(GROUND, dial(0, 0), 3, ("news", 1)), (dial(0, 0), GROUND, -2, ("news", 1))]
        book = entered(*rows)
        self.behind(book, *told)
        self.behind(book, *told[:2], moment=1)
        self.behind(book, moment=0)


class Readings(LinksCase):
    STAND = ("stand", "gauge", "dial", 0, 1)

    def read(self, mark, day=0):
        return ("read", "bore", "gauge", day, mark)

    def test_by_the_device_that_stands_there(self):
        for mark in range(10):
            links = reading_links(DIAL, "bore", 1, mark, ("news", 1))
            self.assertEqual(len(links), 1 if mark in (0, 9) else 2)
            self.behind(entered(self.STAND, self.read(mark, 1)), *links)

    def test_entry_by_entry(self):
        # The dial has steps of 10 grains and a slack of 10, and a stretch from mark 4 on.
        offset, size = dial(1, 0), ("bore", 0, 0)
        self.behind(entered(self.STAND, self.read(5)), (offset, size, 60, ("news", 1)), (size, offset, -40, ("news", 1)))
        self.behind(entered(self.STAND, self.read(0)), (dial(0, 0), size, 10, ("news", 1)))
        self.behind(entered(self.STAND, self.read(9)), (size, dial(2, 0), -80, ("news", 1)))

    def test_nobody_stands_there(self):
        self.behind(entered(self.read(5)))
        self.behind(entered(self.STAND, self.read(5, 2)))
        self.behind(entered(self.STAND, ("stand", "gauge", "nobody", 0, 0), self.read(5)))
        self.behind(entered(("stand", "timer", "clock", 0, 2), self.read(5)))

    def test_marks_that_the_device_has_not(self):
        for mark in (-1, 10, 1000, -1000):
            self.behind(entered(self.STAND, self.read(mark)))

    def test_a_device_known_later_takes_the_place_of_the_one_before(self):
        book = entered(self.STAND, self.read(5), ("stand", "gauge", "ring", 0, 0), ("strike", 2))
        links = reading_links(DIAL, "bore", 0, 5, ("news", 1))
        self.behind(book, *links, moment=2)
        self.behind(book, *reading_links(RING, "bore", 0, 5, ("news", 1)), moment=3)
        self.behind(book, *links)
        self.behind(entered(self.read(5), self.STAND), *reading_links(DIAL, "bore", 0, 5, ("news", 0)))

    def test_several_marks_on_one_day(self):
        book = entered(self.STAND, self.read(5), self.read(6), self.read(5))
        told = []
        for number, mark in enumerate((5, 6, 5)):
            told += reading_links(DIAL, "bore", 0, mark, ("news", number + 1))
        self.behind(book, *told)

    def test_struck(self):
        book = entered(self.STAND, self.read(5), ("strike", 1), ("strike", 2), ("strike", 0))
        links = reading_links(DIAL, "bore", 0, 5, ("news", 1))
        self.behind(book, moment=3)
        self.behind(book, *links, moment=4)
        self.behind(book, moment=5)


class Jolts(LinksCase):
    WHERE = keeper(features=(feature("bore", fall=1, rise=2),), devices=(device("dial", fall=3, rise=4, cuts=(3, 6)), device("ring", fall=5, rise=6), device("clock", "time")))

    def without(self, name, *days):
        """The links of the charter but for the drift of a thing into these days."""
        kept = []
        for link in self.WHERE.own_links():
            a, b, _, why = link
            if why == ("drift", name) and any({a[2], b[2]} == {day - 1, day} for day in days):
                continue
            kept.append(link)
        return tuple(kept)

    def test_drift_in_all_stretches_is_taken_away(self):
        for name, many in (("dial", 6), ("bore", 2), ("ring", 2)):
            for day in (1, 2):
                found = links_of(entered(("jolt", name, day), charter=self.WHERE))
                self.assertEqual(found, self.without(name, day))
                self.assertEqual(len(found), len(self.WHERE.own_links()) - many)
            self.assertEqual(links_of(entered(("jolt", name, 2), ("jolt", name, 1), charter=self.WHERE)), self.without(name, 1, 2))

    def test_entry_by_entry(self):
        charter = keeper(days=3, devices=(), features=(feature("bore", least=1, greatest=9, fall=2, rise=3),), roles=())
        first, second, third = [("bore", 0, day) for day in range(3)]
        told = []
        for spot in (first, second, third):
            told += [(GROUND, spot, 9, ("range", "bore")), (spot, GROUND, -1, ("range", "bore"))]
            if spot == first:
                told += [(first, second, 3, ("drift", "bore")), (second, first, 2, ("drift", "bore"))]
        self.assertEqual(links_of(entered(("jolt", "bore", 2), charter=charter)), tuple(told))

    def test_struck_and_twice(self):
        book = entered(("jolt", "dial", 1), ("jolt", "dial", 1), ("strike", 0), ("strike", 1), charter=self.WHERE)
        found = [links_of(book, moment) for moment in range(5)]
        self.assertEqual(found, [self.WHERE.own_links(), self.without("dial", 1), self.without("dial", 1), self.without("dial", 1), self.WHERE.own_links()])

    def test_behind_a_jolt_a_thing_is_anywhere_in_its_range(self):
        web = web_of(entered(("cert", "bore", 0, 0, 0, 0, "ground", 0, 50, 50), ("jolt", "bore", 2), charter=self.WHERE))
        self.assertEqual([web.bound(GROUND, ("bore", 0, day)) for day in range(3)], [50, 52, 100])


class Bearing(LinksCase):
    ROWS = (
        ("cert", "dial", 0, 0, 0, 0, "ground", 0, 0, 0), ("stand", "gauge", "dial", 0, 1), ("read", "bore", "gauge", 0, 5), ("read", "bore", "gauge", 2, 5), TOLD,
        ("jolt", "bore", 1), ("edition", "fit", "first", 0, 2), ("read", "slot", "gauge", 1, 4), ("strike", 2), ("strike", 0), ("strike", 8),
    )

    def test_certificates_and_readings_in_force(self):
        book = entered(*self.ROWS)
        # Number 3 is a reading that says nothing; it bears all the same.
        self.assertEqual(bearing(book), (2, 3, 7))
        self.assertEqual([bearing(book, moment) for moment in range(len(self.ROWS) + 1)], [
            (), (0,), (0,), (0, 2), (0, 2, 3), (0, 2, 3), (0, 2, 3), (0, 2, 3), (0, 2, 3, 7), (0, 3, 7), (3, 7), (2, 3, 7),
        ])
        self.assertEqual(bearing(entered()), ())

    def test_web_without(self):
        book = entered(*self.ROWS)
        whole = web_of(book, 8)
        for numbers in ((), (2,), [0], (0, 2), (2, 0, 7), (3,), (0, 2, 3, 7), (2, 2)):
            links = [link for link in whole if not (link[3][0] == "news" and link[3][1] in numbers)]
            web = web_without(book, numbers, 8)
            self.assertEqual(web, Web(KEEPER.all_spots(), links))
            many = 2 * len({0, 2, 7} & set(numbers))
            self.assertEqual(len(web), len(whole) - many)

    def test_numbers_that_bear_nothing_take_nothing_away(self):
        book = entered(*self.ROWS)
        for numbers in ((1,), (4, 5, 6), (8,), (-1, 99), (0,), ("2", None, (2,), [2], 2.5), (10, 11)):
            self.assertEqual(web_without(book, numbers), web_of(book))
        self.assertNotEqual(web_without(book, (2,)), web_of(book))
        # Number 0 is struck at the end, and number 2 is not known yet at the moment 1.
        self.assertNotEqual(web_without(book, (0,), 1), web_of(book, 1))
        self.assertEqual(web_without(book, (2,), 1), web_of(book, 1))

    def test_true_is_not_1(self):
        cert = ("cert", "dial", 0, 0, 0, 0, "ground", 0, 0, 0)
        book = entered(cert, cert)
        for numbers in ((True,), (False,), (True, False), (1.0, 0.0)):
            self.assertEqual(web_without(book, numbers), web_of(book))
        self.assertEqual(len(web_without(book, (True, 1))), len(web_of(book)) - 2)


class Moments(Case):
    def test_no_moment(self):
        book = entered(TOLD, ("cert", "dial", 0, 0, 0, 0, "ground", 0, 0, 0))
        for moment in (-1, 3, "1") + STRANGE[1:]:
            for call in (links_of, web_of, bearing):
                self.raises(NoMoment, lambda: call(book, moment), moment=moment)
            self.raises(NoMoment, lambda: web_without(book, (1,), moment), moment=moment)

    def test_a_clash_has_a_web(self):
        book = entered(("cert", "dial", 0, 0, 0, 0, "ground", 0, 5, 5), ("cert", "dial", 0, 0, 0, 0, "ground", 0, 6, 6))
        self.assertIsNone(web_of(book, 1).bad_ring())
        self.assertIsNotNone(web_of(book).bad_ring())
        self.assertIsNone(web_without(book, (0,)).bad_ring())

    def test_later_news_changes_nothing_earlier(self):
        rng = random.Random(14)
        spots = [("dial", 2), ("ring", 0), ("bore", 0), ("slot", 0)]
        for _ in range(15):
            book = Book(KEEPER)
            kept = [links_of(book)]
            for number in range(20):
                thing, last = rng.choice(spots)
                s = rng.randint(0, 2)
                e = rng.randint(s, 2)
                rows = [("cert", thing, 0, last, s, e, "ground", 0, rng.randint(0, 3), rng.randint(3, 5)), ("jolt", thing, rng.randint(1, 2))]
                rows += [("read", "bore", "gauge", s, rng.randint(-1, 10)), ("stand", "gauge", rng.choice(("dial", "ring", "nobody")), s, e)]
                rows += [("strike", rng.randint(0, number - 1))] * 3 if number else []
                book.enter(0, rng.choice(rows))
                kept.append(links_of(book))
            for moment, links in enumerate(kept):
                self.assertEqual(links_of(book, moment), links)
                self.assertEqual(links_of(book.cut(moment)), links)
                self.assertEqual(web_without(book, (), moment), web_of(book, moment))
                less = tuple(link for link in links if link[3][0] != "news")
                self.assertEqual(web_without(book, bearing(book, moment), moment).links, less)


if __name__ == "__main__":
    unittest.main()
