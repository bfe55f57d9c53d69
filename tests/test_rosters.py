"""[13] which device stands in a role and which procedure does a job, on a day, at a moment."""

import random
import unittest

from ellwarden.books import Book
from ellwarden.errors import BadDay, NoMoment, Unknown
from ellwarden.rosters import does, roster, stands
from samples import STRANGE, Case, keeper
from test_books import is_in_force

KEEPER = keeper()
DAYS = range(3)


def entered(*rows):
    return Book.of(KEEPER, [(0, news) for news in rows])


class Standing(Case):
    def row(self, book, role="gauge", moment=None):
        return [stands(book, role, day, moment) for day in DAYS]

    def test_nobody_at_first(self):
        self.assertEqual(self.row(entered()), ["nobody"] * 3)
        self.assertEqual(roster(entered()), (("nobody",) * 3, ("nobody",) * 3))

    def test_days_at_the_edges(self):
        book = entered(("stand", "gauge", "dial", 1, 1))
        self.assertEqual(self.row(book), ["nobody", "dial", "nobody"])
        self.assertEqual(self.row(book, "timer"), ["nobody"] * 3)
        self.assertEqual(self.row(entered(("stand", "gauge", "dial", 0, 2))), ["dial"] * 3)

    def test_the_last_one_counts(self):
        book = entered(("stand", "gauge", "dial", 0, 2), ("stand", "gauge", "ring", 1, 2), ("stand", "timer", "clock", 0, 1), ("stand", "gauge", "nobody", 2, 2))
        self.assertEqual([self.row(book, "gauge", moment) for moment in range(5)], [
            ["nobody"] * 3, ["dial"] * 3, ["dial", "ring", "ring"], ["dial", "ring", "ring"], ["dial", "ring", "nobody"],
        ])
        self.assertEqual(roster(book), (("dial", "ring", "nobody"), ("clock", "clock", "nobody")))
        self.assertEqual(roster(book, 3), (("dial", "ring", "ring"), ("clock", "clock", "nobody")))
        self.assertEqual(roster(book, 0), (("nobody",) * 3,) * 2)

    def test_by_number_not_by_known_day_or_meant_day(self):
        book = Book.of(KEEPER, [(0, ("stand", "gauge", "dial", 2, 2)), (2, ("stand", "gauge", "ring", 0, 2))])
        self.assertEqual(self.row(book), ["ring"] * 3)

    def test_strikes(self):
        book = entered(
            ("stand", "gauge", "dial", 0, 2), ("stand", "gauge", "ring", 0, 1), ("strike", 1), ("strike", 0), ("strike", 2), ("strike", 4), ("strike", 5),
        )
        self.assertEqual([self.row(book, "gauge", moment) for moment in range(8)], [
            ["nobody"] * 3, ["dial"] * 3, ["ring", "ring", "dial"], ["dial"] * 3, ["nobody"] * 3, ["ring", "ring", "nobody"], ["nobody"] * 3,
            ["ring", "ring", "nobody"],
        ])

    def test_later_news_changes_nothing_earlier(self):
        book = entered(("stand", "gauge", "dial", 0, 2))
        self.assertEqual(self.row(book, "gauge", 1), ["dial"] * 3)
        book.enter(2, ("strike", 0))
        book.enter(2, ("stand", "gauge", "ring", 0, 2))
        self.assertEqual(self.row(book, "gauge", 1), ["dial"] * 3)
        self.assertEqual(self.row(book, "gauge", 2), ["nobody"] * 3)


class Doing(Case):
    def row(self, book, job="fit", moment=None):
        return [does(book, job, day, moment) for day in DAYS]

    def test_editions(self):
        book = entered(
            ("edition", "fit", "first", 0, 1), ("edition", "weigh", "second", 2, 2), ("edition", "fit", "second", 1, 2), ("edition", "fit", "nobody", 0, 0),
            ("strike", 2),
        )
        self.assertEqual([self.row(book, "fit", moment) for moment in range(6)], [
            ["nobody"] * 3, ["first", "first", "nobody"], ["first", "first", "nobody"], ["first", "second", "second"], ["nobody", "second", "second"],
            ["nobody", "first", "nobody"],
        ])
        self.assertEqual(self.row(book, "weigh"), ["nobody", "nobody", "second"])

    def test_a_role_and_a_job_by_their_own_news(self):
        book = entered(("stand", "gauge", "dial", 0, 2))
        self.assertEqual(self.row(book), ["nobody"] * 3)
        book = entered(("edition", "fit", "first", 0, 2))
        self.assertEqual(stands(book, "gauge", 0), "nobody")


class Refusals(Case):
    def test_no_moment_then_unknown_then_bad_day(self):
        book = entered(("stand", "gauge", "dial", 0, 2), ("edition", "fit", "first", 0, 2))
        for moment in (-1, 3, "1") + STRANGE[1:]:
            self.raises(NoMoment, lambda: stands(book, "no", "no", moment), moment=moment)
            self.raises(NoMoment, lambda: does(book, "no", "no", moment), moment=moment)
            self.raises(NoMoment, lambda: roster(book, moment), moment=moment)
        for name in ("fit", "dial", "bore", "first", "length", "nobody", "gauges", 0) + STRANGE:
            self.raises(Unknown, lambda: stands(book, name, "no", 1), name=name)
        for name in ("gauge", "dial", "bore", "first", "length", "nobody", "fits", 0) + STRANGE:
            self.raises(Unknown, lambda: does(book, name, "no", 1), name=name)
        for day in (-1, 3, "1") + STRANGE:
            self.raises(BadDay, lambda: stands(book, "gauge", day), day=day)
            self.raises(BadDay, lambda: does(book, "fit", day), day=day)


class AsTold(unittest.TestCase):
    def test_every_moment_of_random_books(self):
        rng = random.Random(131)
        for _ in range(20):
            rows = []
            for number in range(20):
                s = rng.randint(0, 2)
                e = rng.randint(s, 2)
                news = [("stand", "gauge", rng.choice(("dial", "ring", "nobody")), s, e), ("stand", "timer", rng.choice(("clock", "nobody")), s, e)]
                news += [("edition", rng.choice(("fit", "weigh")), rng.choice(("first", "second", "nobody")), s, e)]
                rows.append(("strike", rng.randint(0, number - 1)) if number and rng.random() < 0.5 else rng.choice(news))
            book = entered(*rows)
            for moment in range(len(rows) + 1):
                told = {}
                for role in ("gauge", "timer"):
                    told[role] = tuple(self.named(rows, moment, "stand", role, day) for day in DAYS)
                    self.assertEqual(tuple(stands(book, role, day, moment) for day in DAYS), told[role])
                self.assertEqual(roster(book, moment), (told["gauge"], told["timer"]))
                for job in ("fit", "weigh"):
                    for day in DAYS:
                        self.assertEqual(does(book, job, day, moment), self.named(rows, moment, "edition", job, day))

    def named(self, rows, moment, word, name, day):
        for number in range(moment - 1, -1, -1):
            news = rows[number]
            if news[:2] == (word, name) and news[3] <= day <= news[4] and is_in_force(rows, moment, number):
                return news[2]
        return "nobody"


if __name__ == "__main__":
    unittest.main()
