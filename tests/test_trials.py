"""[1], [11] trials of a book, and rows of news that are tried within one another."""

import unittest

from ellwarden.books import Book, Trial, tried
from ellwarden.errors import BadDay, BadNews, NoNews, TooMany
from samples import Case, keeper

KEEPER = keeper()
READ = ("read", "bore", "gauge", 1, 4)
JOLT = ("jolt", "dial", 1)
STAND = ("stand", "gauge", "dial", 0, 2)


class TrialCase(Case):
    def setUp(self):
        self.book = Book.of(KEEPER, [(0, READ), (1, JOLT)])
        self.kept = tuple(self.book)

    def is_as_it_was(self):
        self.assertEqual(tuple(self.book), self.kept)
        # Nor has anything become known later.
        self.assertEqual(self.book.copy().enter(1, READ), 2)
        self.raises(BadDay, lambda: self.book.copy().enter(0, READ), day=0)


class Trials(TrialCase):
    def test_behind_the_block(self):
        with Trial(self.book) as held:
            self.assertIs(held, self.book)
            held.enter(1, STAND)
            self.book.enter(2, ("strike", 0))
            self.assertEqual(len(self.book), 4)
            self.assertEqual(self.book.in_force(), (1, 2, 3))
        self.is_as_it_was()

    def test_behind_an_empty_block(self):
        with Trial(self.book):
            pass
        self.is_as_it_was()

    def test_behind_an_error(self):
        for error in (KeyError, BadNews):
            with self.assertRaises(error):
                with Trial(self.book) as held:
                    held.enter(2, STAND)
                    if error is KeyError:
                        raise KeyError("x")
                    held.enter(2, None)
            self.is_as_it_was()

    def test_one_within_another(self):
        with Trial(self.book) as held:
            held.enter(1, STAND)
            with Trial(held) as inner:
                inner.enter(2, JOLT)
                with Trial(self.book):
                    self.book.enter(2, READ)
                    self.assertEqual(len(held), 5)
                self.assertEqual(len(held), 4)
            self.assertEqual(tuple(held), self.kept + ((1, STAND),))
            self.assertEqual(held.enter(1, READ), 3)
        self.is_as_it_was()

    def test_used_again(self):
        trial = Trial(self.book)
        for _ in range(2):
            with trial as held:
                held.enter(2, STAND)
            self.is_as_it_was()
        self.book.enter(2, READ)
        # The book as it is when the block begins, not when the trial was made.
        with trial as held:
            held.enter(2, STAND)
        self.assertEqual(tuple(self.book), self.kept + ((2, READ),))

    def test_copies_taken_in_the_block_go_on(self):
        with Trial(self.book) as held:
            held.enter(2, STAND)
            made = held.copy()
        self.is_as_it_was()
        self.assertEqual(tuple(made), self.kept + ((2, STAND),))
        made.enter(2, READ)
        self.is_as_it_was()

    def test_of_an_empty_book(self):
        book = Book(KEEPER)
        with Trial(book) as held:
            self.assertIs(held, book)
            held.enter(2, READ)
        self.assertEqual(tuple(book), ())
        self.assertEqual(book.enter(0, READ), 0)


class Tried(TrialCase):
    def rows_of(self, copies):
        for made in copies:
            self.assertIsInstance(made, Book)
            self.assertIsNot(made, self.book)
            self.assertIs(made.charter, KEEPER)
        self.assertIs(type(copies), tuple)
        return [tuple(made)[2:] for made in copies]

    def test_no_rows(self):
        self.assertEqual(tried(self.book, []), ())
        self.assertEqual(tried(self.book, ()), ())
        self.is_as_it_was()

    def test_one_row(self):
        found = tried(self.book, [[(1, STAND), (2, JOLT)]])
        self.assertEqual(self.rows_of(found), [((1, STAND), (2, JOLT))])
        self.is_as_it_was()

    def test_rows_without_pairs(self):
        self.assertEqual(self.rows_of(tried(self.book, ((),))), [()])
        self.assertEqual(self.rows_of(tried(self.book, [[], (), []])), [()] * 5)
        self.assertEqual(self.rows_of(tried(self.book, [[], [(1, STAND)], []])), [(), ((1, STAND),), ((1, STAND),), ((1, STAND),), ()])
        self.is_as_it_was()

    def test_several_rows(self):
        first, second, third = ((1, STAND),), ((1, READ), (2, JOLT)), ((2, ("strike", 2)),)
        found = tried(self.book, (list(first), second, third))
        self.assertEqual(self.rows_of(found), [first, first + second, first + second + third, first + second, first])
        self.is_as_it_was()

    def test_twelve_rows(self):
        found = self.rows_of(tried(self.book, [[(1, READ)]] * 12))
        self.assertEqual([len(row) for row in found], list(range(1, 13)) + list(range(11, 0, -1)))
        self.is_as_it_was()

    def test_copies_go_on_by_themselves(self):
        found = tried(self.book, [[(1, STAND)], [(2, JOLT)]])
        for at, made in enumerate(found):
            others = [tuple(other) for place, other in enumerate(found) if place != at]
            made.enter(2, READ)
            self.assertEqual([tuple(other) for place, other in enumerate(found) if place != at], others)
        self.is_as_it_was()

    def test_a_pair_that_is_refused_in_any_row(self):
        good = [(1, STAND), (2, READ)]
        for error, pair, kept in (
            (BadNews, (2, ("jolt", "dial", 0)), {"place": 2}), (BadDay, (3, READ), {"day": 3}), (BadDay, (1, READ), {"day": 1}),
            (NoNews, (2, ("strike", 77)), {"number": 77}),
        ):
            for rows in ([good + [pair]], [good, [pair]], [good, [(2, READ)], [pair, (2, READ)]], [good, [pair], [(0, None)]], [good, [(2, READ), pair, (0, None)]]):
                self.raises(error, lambda: tried(self.book, rows), **kept)
                self.is_as_it_was()

    def test_too_many(self):
        rows = [[(1, READ)] * 29, [(1, READ)] * 29]
        self.assertEqual([len(made) for made in tried(self.book, rows)], [31, 60, 31])
        self.raises(TooMany, lambda: tried(self.book, rows + [[(1, READ)]]), kind="news")
        self.is_as_it_was()

    def test_within_a_trial(self):
        with Trial(self.book) as held:
            held.enter(1, STAND)
            self.assertEqual(self.rows_of(tried(held, [[(2, READ)]])), [((1, STAND), (2, READ))])
            self.assertEqual(tuple(held), self.kept + ((1, STAND),))
        self.is_as_it_was()


if __name__ == "__main__":
    unittest.main()
