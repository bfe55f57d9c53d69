"""[37] leagues: houses, ties, shared things, what a house knows; [38] letters, and horizons."""

import random
import time
import unittest

from ellwarden.books import Book
from ellwarden.bookwebs import web_of
from ellwarden.cards import Card, card_of
from ellwarden.errors import Apart, BadDay, BadHouse, BadNews, BadTie, Clash, NoHouse, NoLetter, NoNews, NoTie, TooMany, Unlike
from ellwarden.leagues import Held, League, attempted
from ellwarden.settling import joined, settle
from ellwarden.webs import Web
from ellwarden.worlds import GROUND
from leaguesamples import (
    ANNA, BERT, BORE, CERT, CORA, DIAL, PAIRS, PEG, RING, RULE, SLOT, TIES, card_now, charter, enter_some, known_without, random_league, some_deeds, state_of, three,
)
from samples import STRANGE, device, feature, swapped
from test_webs import WebCase

NAMES = ("anna", "bert", "cora")


def spots_of(*things):
    """The ground and the spots of some things, in order."""
    spots = [GROUND]
    for thing in things:
        for stretch in range(len(thing[11]) + 1 if len(thing) > 6 else 1):
            spots += [(thing[0], stretch, day) for day in range(3)]
    return tuple(spots)


class Making(WebCase):
    def test_attributes(self):
        for rows in ((PAIRS, TIES), (list(PAIRS), list(TIES))):
            league = League(*rows)
            self.assertEqual((league.houses, league.ties), (NAMES, TIES))
            self.assertEqual((type(league.houses), type(league.ties)), (tuple, tuple))
            self.assertEqual(len(league), 0)
        league = League([("anna", Book(ANNA))])
        self.assertEqual((league.houses, league.ties), (("anna",), ()))

    def test_numbers_of_houses(self):
        names = ("anna", "bert", "cora", "dora", "emil", "fred")
        for many in range(1, 6):
            self.assertEqual(League([(name, Book(charter())) for name in names[:many]]).houses, names[:many])
        for many in (0, 6):
            self.raises(BadHouse, lambda: League([(name, Book(charter())) for name in names[:many]]), place=-1)
        self.raises(BadHouse, lambda: League(()), place=-1)
        # What is no house goes ahead of the number.
        self.raises(BadHouse, lambda: League([(name, Book(charter())) for name in names[:5]] + [("anna", Book(charter()))]), place=5)

    def bad_house(self, pairs, place):
        for ties in ((), TIES, [None]):
            self.raises(BadHouse, lambda: League(pairs, ties), place=place)

    def test_each_bad_house(self):
        other = Book(ANNA)
        things = list(STRANGE) + [
            list(PAIRS[0]), PAIRS[0][:1], PAIRS[0] + (1,), ("ground", other), ("end", other), ("Anna", other), ("abcdefghijklm", other), ("", other), (1, other),
            (True, other), (None, other), (b"anna", other), (["anna"], other), ("a b", other), ("dora", None), ("dora", ANNA), ("dora", ()),
        ]
        things += [("dora", Book(charter(days=4))), ("dora", Book(charter(bases=("length",)))), ("dora", Book(charter(bases=("time", "length")))), ("dora", Book(charter(bases=("length", "time", "mass"))))]
        for thing in things:
            for place in range(1, 4):
                self.bad_house(PAIRS[:place] + (thing,) + PAIRS[place:], place)
                self.bad_house(list(PAIRS[:place]) + [thing, thing], place)
        for thing in things[:-4]:
            self.bad_house((thing,) + PAIRS, 0)
        # The first house tells the days and the bases.
        self.bad_house((("dora", Book(charter(days=4))),) + PAIRS, 1)

    def test_a_name_that_was_there_before(self):
        self.bad_house(PAIRS + (("anna", Book(ANNA)),), 3)
        self.bad_house((PAIRS[0], PAIRS[0], PAIRS[1]), 1)

    def test_names_of_houses_are_free_of_those_in_charters(self):
        self.assertEqual(League([("dial", Book(ANNA)), ("length", Book(ANNA))], [("length", "dial")]).houses, ("dial", "length"))

    def test_one_book_in_several_houses(self):
        book = Book(ANNA)
        league = League([("anna", book), ("bert", book)], [("anna", "bert")])
        league.enter("anna", 0, CERT)
        self.assertEqual((len(league.book_of("anna")), len(league.book_of("bert")), len(book)), (1, 0, 0))

    def bad_tie(self, ties, place):
        pairs = PAIRS + (("dora", Book(CORA)),)
        self.raises(BadTie, lambda: League(pairs, ties), place=place)

    def test_each_bad_tie(self):
        for tie in STRANGE + (
            list(TIES[0]), TIES[0][:1], TIES[0] + ("cora",), ("anna", "anna"), ("anna", "annas"), ("zoe", "anna"), ("anna", None), (None, None), (1, 2), ("anna", ["bert"]),
            ("anna", "Bert"), ("dial", "anna"), ("anna", True), {"anna", "bert"},
        ):
            self.bad_tie([tie], 0)
            self.bad_tie([tie, TIES[0]], 0)
            self.bad_tie(TIES + (tie, None), 2)

    def test_houses_that_are_joined_already(self):
        for tie in (TIES[0], TIES[0][::-1], TIES[1], TIES[1][::-1], ("anna", "cora"), ("cora", "anna")):
            self.bad_tie(list(TIES) + [tie], 2)
            self.bad_tie(list(TIES) + [("dora", "cora"), tie], 3)
        self.bad_tie(list(TIES) + [("dora", "cora"), ("dora", "anna")], 3)
        self.bad_tie(list(TIES) + [("dora", "cora"), ("bert", "dora")], 3)

    def test_unlike_things(self):
        for things, name in (
            ([swapped(DIAL, 4, 11)], "dial"), ([swapped(DIAL, 11, ())], "dial"), ([RULE, swapped(BORE, 4, 3)], "bore"), ([feature("dial")], "dial"),
            ([device("bore")], "bore"), ([swapped(BORE, 2, 1), swapped(DIAL, 4, 11)], "dial"), ([swapped(BORE, 2, 1), swapped(SLOT, 2, 1)], "bore"),
            ([swapped(SLOT, 2, 1), swapped(BORE, 2, 1)], "slot"), ([feature("dial"), device("bore")], "bore"), ([RING, feature("dial", "time")], "dial"),
        ):
            other = charter([one for one in things if len(one) > 6], [one for one in things if len(one) == 6])
            self.raises(Unlike, lambda: League([("anna", Book(ANNA)), ("bert", Book(other))], [("anna", "bert")]), name=name)
            # Also where a house lies between, and where there is no tie.
            self.raises(Unlike, lambda: League([("anna", Book(ANNA)), ("cora", Book(charter())), ("bert", Book(other))]), name=name)

    def test_the_first_house_with_an_unlike_thing(self):
        bert, cora = charter((), (swapped(BORE, 2, 1),)), charter((swapped(DIAL, 4, 11),))
        pairs = [("anna", Book(ANNA)), ("bert", Book(bert)), ("cora", Book(cora))]
        self.raises(Unlike, lambda: League(pairs), name="bore")
        self.raises(Unlike, lambda: League([pairs[0], pairs[2], pairs[1]]), name="dial")
        self.raises(Unlike, lambda: League([pairs[2], pairs[1], pairs[0]]), name="dial")

    def test_names_of_other_sorts_do_not_matter(self):
        first = charter((DIAL,), (), roles=(("gauge", "length"), ("bore", "length")), jobs=("slot",), procedures=(("peg", (), (), ()),), units=(("mm", (1, 0), (10, 1)),))
        second = charter((device("gauge"),), (BORE,), roles=(("dial", "length"),), jobs=("mm",), procedures=(("slot", (), (), ()),))
        third = charter((), (SLOT, feature("mm"), PEG), roles=(("gauge", "time"),), jobs=("dial",))
        league = League([("anna", Book(first)), ("bert", Book(second)), ("cora", Book(third))], TIES)
        self.assertEqual(league.shared("anna", "bert"), (GROUND,))
        self.assertEqual(league.shared("bert", "cora"), (GROUND,))

    def test_apart(self):
        pairs = [("anna", Book(charter((DIAL, RING), (BORE,)))), ("bert", Book(charter((RING,), (BORE, PEG)))), ("cora", Book(charter((DIAL,), (BORE, PEG))))]
        # Anna and cora share the dial, and bert lies between.
        self.raises(Apart, lambda: League(pairs, [("anna", "bert"), ("bert", "cora")]), name="dial")
        self.raises(Apart, lambda: League(pairs, [("anna", "cora"), ("anna", "bert")]), name="peg")
        self.raises(Apart, lambda: League(pairs, [("anna", "cora"), ("cora", "bert")]), name="ring")
        self.raises(Apart, lambda: League(pairs), name="dial")
        self.raises(Apart, lambda: League(pairs[1:]), name="bore")
        self.raises(Apart, lambda: League(pairs[::-1], [("anna", "bert"), ("bert", "cora")]), name="dial")
        # A thing of a house that is the first to have it, devices ahead of features.
        self.raises(Apart, lambda: League([("anna", Book(charter((DIAL,), (BORE,)))), ("bert", Book(charter((), (BORE, PEG)))), ("cora", Book(charter((DIAL,), (PEG,))))], [("anna", "bert")]), name="dial")
        self.raises(Apart, lambda: League([("anna", Book(charter((DIAL,), (BORE,)))), ("bert", Book(charter((), (PEG,)))), ("cora", Book(charter((), (BORE, PEG))))], [("anna", "bert")]), name="bore")

    def test_things_that_ties_join(self):
        pairs = [(name, Book(ANNA)) for name in NAMES]
        for ties in ([("anna", "bert"), ("bert", "cora")], [("anna", "cora"), ("bert", "anna")]):
            self.assertEqual(League(pairs, ties).ties, tuple(ties))
        self.raises(Apart, lambda: League(pairs, [("anna", "cora")]), name="dial")

    def test_the_order_of_errors(self):
        unlike = [("anna", Book(ANNA)), ("bert", Book(charter((swapped(DIAL, 4, 11),), (BORE,))))]
        self.raises(BadHouse, lambda: League(unlike + [None], [None]), place=2)
        self.raises(BadTie, lambda: League(unlike, [None]), place=0)
        self.raises(Unlike, lambda: League(unlike), name="dial")
        self.raises(Unlike, lambda: League([("cora", Book(charter((), (BORE,))))] + unlike), name="dial")

    def test_books_and_rows_are_copied(self):
        books = [Book(ANNA), Book(BERT)]
        pairs, ties = [("anna", books[0]), ("bert", books[1])], [TIES[0]]
        league = League(pairs, ties)
        books[0].enter(0, CERT)
        pairs.clear()
        ties.clear()
        self.assertEqual((league.houses, league.ties, len(league.book_of("anna"))), (("anna", "bert"), (TIES[0],), 0))
        league.book_of("anna").enter(0, CERT)
        self.assertEqual(len(league.book_of("anna")), 0)
        league.enter("anna", 1, CERT)
        self.assertEqual((len(books[0]), len(league.book_of("anna"))), (1, 1))


class Knowing(WebCase):
    def test_books(self):
        league = three()
        self.assertEqual(league.book_of("bert"), Book(BERT))
        self.assertEqual(league.enter("bert", 0, CERT), 0)
        self.assertEqual(league.enter("bert", 1, ("jolt", "dial", 1)), 1)
        self.assertEqual(league.enter("anna", 0, ("jolt", "dial", 2)), 0)
        self.assertEqual(league.book_of("bert"), Book.of(BERT, [(0, CERT), (1, ("jolt", "dial", 1))]))
        self.assertEqual(league.book_of("anna"), Book.of(ANNA, [(0, ("jolt", "dial", 2))]))
        self.assertEqual(league.book_of("cora"), Book(CORA))

    def test_what_entering_raises(self):
        league = three()
        league.enter("bert", 1, CERT)
        before = state_of(league)
        for day in (0, 3, -1, "1", True, None):
            self.raises(BadDay, lambda: league.enter("bert", day, None), day=day)
        self.raises(BadNews, lambda: league.enter("bert", 1, ("jolt", "slot", 1)), place=1)
        self.raises(NoNews, lambda: league.enter("bert", 1, ("strike", 1)), number=1)
        for name in ("dora", "Bert", "dial") + STRANGE:
            self.raises(NoHouse, lambda: league.enter(name, None, None), name=name)
        self.assertEqual(state_of(league), before)
        for _ in range(59):
            league.enter("bert", 1, CERT)
        self.raises(TooMany, lambda: league.enter("bert", 1, None), kind="news")
        self.raises(BadDay, lambda: league.enter("bert", 0, None), day=0)

    def test_neighbours(self):
        league = three()
        self.assertEqual([league.neighbours(name) for name in NAMES], [("bert",), ("anna", "cora"), ("bert",)])
        self.assertEqual(League(PAIRS[::-1], TIES).neighbours("bert"), ("cora", "anna"))
        self.assertEqual(League(PAIRS[:1]).neighbours("anna"), ())

    def test_shared_spots_in_the_order_of_the_sender(self):
        league = three()
        self.assertEqual(league.shared("anna", "bert"), spots_of(DIAL, BORE))
        self.assertEqual(league.shared("bert", "anna"), spots_of(DIAL, BORE))
        self.assertEqual(league.shared("bert", "cora"), spots_of(RULE, PEG))
        other = League([("anna", Book(charter((DIAL, RING), (BORE, SLOT)))), ("bert", Book(charter((RING, DIAL), (SLOT, BORE, PEG))))], TIES[:1])
        self.assertEqual(other.shared("anna", "bert"), spots_of(DIAL, RING, BORE, SLOT))
        self.assertEqual(other.shared("bert", "anna"), spots_of(RING, DIAL, SLOT, BORE))
        alone = League([("anna", Book(charter((RING,)))), ("bert", Book(CORA))], TIES[:1])
        self.assertEqual(alone.shared("anna", "bert"), (GROUND,))

    def test_no_house_then_no_tie(self):
        league = three()
        league.send("anna", "bert")
        before = state_of(league)
        for name in ("dora", "Bert", "dial", "") + STRANGE:
            for call in (league.book_of, league.neighbours, league.knows, league.horizon):
                self.raises(NoHouse, lambda: call(name), name=name)
            for call in (league.shared, league.send, league.kept):
                self.raises(NoHouse, lambda: call(name, "zoe"), name=name)
                self.raises(NoHouse, lambda: call("anna", name), name=name)
                self.raises(NoHouse, lambda: call(name, name), name=name)
        for first, second in (("anna", "cora"), ("cora", "anna"), ("anna", "anna"), ("bert", "bert")):
            for call in (league.shared, league.send):
                self.raises(NoTie, lambda: call(first, second), sender=first, receiver=second)
            self.raises(NoTie, lambda: league.kept(first, second), sender=second, receiver=first)
        self.assertEqual(state_of(league), before)

    def test_a_house_without_letters_knows_its_book(self):
        league = three()
        league.enter("bert", 0, CERT)
        league.send("bert", "anna")
        self.assertEqual(league.knows("bert"), web_of(league.book_of("bert")))
        self.assertEqual(league.knows("anna"), web_of(Book(ANNA)))

    def test_links_of_letters_behind_the_links_of_the_book(self):
        league = three()
        league.enter("anna", 0, CERT)
        league.enter("bert", 2, CERT)
        for sender in ("cora", "anna"):
            league.deliver(league.send(sender, "bert"))
        links = list(web_of(league.book_of("bert")).links)
        # In the order of the houses, not in that in which they came.
        for number, name in ((1, "anna"), (0, "cora")):
            card = league.letter(number)[2]
            links += [(a, b, bound, ("letter", name)) for a, b, bound, _ in card.as_web()]
        self.assertEqual(league.knows("bert"), Web(BERT.all_spots(), links))
        self.assertIsInstance(league.knows("bert"), Web)
        self.assertEqual(league.knows("bert"), known_without(league, "bert"))

    def test_a_house_in_a_clash(self):
        league = three()
        league.enter("anna", 0, CERT)
        league.enter("bert", 0, ("cert", "bore", 0, 0, 1, 1, "ground", 0, 40, 50))
        league.deliver(league.send("anna", "bert"))
        web = league.knows("bert")
        self.is_ring(web, web.bad_ring())


class Letters(WebCase):
    def test_what_is_sent(self):
        league = three()
        league.enter("anna", 0, CERT)
        self.assertEqual(league.send("anna", "bert"), 0)
        sender, receiver, card, horizon = league.letter(0)
        self.assertEqual((sender, receiver, horizon), ("anna", "bert", (1, None, None)))
        self.assertEqual(card, card_of(web_of(league.book_of("anna")), spots_of(DIAL, BORE)))
        self.assertIsInstance(card, Card)
        self.assertEqual((card[GROUND, ("bore", 0, 1)], card[GROUND, ("bore", 0, 0)], card[GROUND, ("bore", 0, 2)]), (30, 32, 31))
        self.assertIs(type(league.letter(0)), tuple)
        self.assertEqual((league.send("bert", "anna"), league.send("anna", "bert"), len(league)), (1, 2, 3))

    def test_the_ground_alone(self):
        league = League([("anna", Book(charter((RING,)))), ("bert", Book(CORA))], TIES[:1])
        self.assertTrue(league.deliver(league.send("anna", "bert")))
        self.assertEqual(league.letter(0)[2], Card([GROUND], [[0]]))
        self.assertEqual(league.knows("bert"), web_of(Book(CORA)))
        self.assertEqual(league.horizon("bert"), (0, 0))

    def test_a_letter_stays_as_it_was(self):
        league = three()
        league.send("anna", "bert")
        before = league.letter(0)
        rows = before[2].rows
        league.enter("anna", 0, CERT)
        league.deliver(0)
        league.send("anna", "bert")
        self.assertEqual(league.letter(0), before)
        self.assertEqual(league.letter(0)[2].rows, rows)
        self.assertEqual(league.letter(0)[3], (0, None, None))
        self.assertEqual(league.letter(1)[3], (1, None, None))
        self.assertNotEqual(league.letter(1)[2], before[2])

    def test_delivered_late_twice_never_and_in_the_wrong_order(self):
        league = three()
        for _ in range(4):
            league.send("anna", "bert")
            league.enter("anna", 0, CERT)
        self.assertIsNone(league.kept("bert", "anna"))
        self.assertIs(league.deliver(1), True)
        self.assertEqual(league.kept("bert", "anna"), 1)
        self.assertIs(league.deliver(1), False)
        self.assertIs(league.deliver(0), False)
        self.assertEqual(league.kept("bert", "anna"), 1)
        self.assertEqual(league.knows("bert"), known_without(league, "bert"))
        self.assertIs(league.deliver(3), True)
        self.assertIs(league.deliver(2), False)
        self.assertIs(league.deliver(1), False)
        self.assertIs(league.deliver(3), False)
        self.assertEqual(league.kept("bert", "anna"), 3)
        self.assertEqual(league.horizon("bert"), (3, 0, None))
        # It keeps no letter that was sent along another tie or the other way round.
        self.assertIsNone(league.kept("anna", "bert"))
        self.assertIsNone(league.kept("bert", "cora"))

    def test_an_equal_letter_takes_the_place_too(self):
        league = three()
        for _ in range(2):
            league.send("anna", "bert")
        self.assertEqual([league.deliver(0), league.deliver(1), league.kept("bert", "anna")], [True, True, 1])

    def test_no_letter(self):
        league = three()
        for number in (0, 1, -1) + STRANGE:
            self.raises(NoLetter, lambda: league.letter(number), number=number)
            self.raises(NoLetter, lambda: league.deliver(number), number=number)
        league.send("anna", "bert")
        league.send("anna", "bert")
        before = state_of(league)
        for number in (2, -1, -2, "0", True, False, 1.0, None):
            self.raises(NoLetter, lambda: league.letter(number), number=number)
            self.raises(NoLetter, lambda: league.deliver(number), number=number)
        self.assertEqual(state_of(league), before)

    def test_without_the_letter_of_the_receiver(self):
        league = three()
        plain = league.send("bert", "anna")
        league.enter("anna", 0, CERT)
        league.deliver(league.send("anna", "bert"))
        self.assertEqual(league.knows("bert").bound(GROUND, ("bore", 0, 1)), 30)
        number = league.send("bert", "anna")
        self.assertEqual(league.letter(number)[2], league.letter(plain)[2])
        self.assertEqual(league.letter(number)[3], (None, 0, None))
        # To another house it goes on.
        self.assertEqual(league.letter(league.send("bert", "cora"))[3], (1, 0, None))

    def test_a_receiver_with_letters_of_several_houses(self):
        league = three()
        league.enter("anna", 0, CERT)
        league.enter("cora", 1, ("cert", "peg", 0, 0, 2, 2, "ground", 0, 5, 6))
        league.enter("bert", 1, ("cert", "bore", 0, 0, 2, 2, "peg", 0, 20, 24))
        for name in ("anna", "cora"):
            league.deliver(league.send(name, "bert"))
        self.assertEqual(league.horizon("bert"), (1, 1, 1))
        # The peg is 5 or 6 on day 2, the bore 20 to 24 above it, and at most 30 on day 1.
        web = league.knows("bert")
        self.assertEqual((web.bound(GROUND, ("bore", 0, 2)), web.bound(("bore", 0, 2), GROUND)), (30, -25))
        sent = [league.send("bert", name) for name in ("anna", "cora")]
        self.assertEqual([league.letter(number)[3] for number in sent], [(None, 1, 1), (1, 1, None)])
        self.assertEqual(league.letter(sent[0])[2][("bore", 0, 2), GROUND], -25)
        self.assertEqual(league.letter(sent[0])[2], card_now(league, "bert", "anna"))
        self.assertEqual(league.letter(sent[1])[2], card_now(league, "bert", "cora"))

    def test_a_clash(self):
        league = three()
        league.enter("anna", 0, CERT)
        league.enter("bert", 0, ("cert", "bore", 0, 0, 1, 1, "ground", 0, 40, 50))
        league.deliver(league.send("anna", "bert"))
        before = state_of(league)
        web = known_without(league, "bert", "cora")
        self.is_ring(web, self.raises(Clash, lambda: league.send("bert", "cora")).ring)
        self.assertEqual(state_of(league), before)
        self.assertEqual(len(league), 1)
        # Without anna's letter there is a world.
        self.assertEqual(league.send("bert", "anna"), 1)
        # A clash in the book itself.
        league.enter("bert", 0, CERT)
        for name in ("anna", "cora"):
            web = known_without(league, "bert", name)
            self.is_ring(web, self.raises(Clash, lambda: league.send("bert", name)).ring)
        self.assertEqual(len(league), 2)

    def test_random_leagues(self):
        rng = random.Random(38)
        clashes = 0
        for _ in range(40):
            league = random_league(rng, rng.randint(2, 5), narrow=rng.random() < 0.5)
            for _ in range(6):
                some_deeds(rng, league, 4)
                for tie in league.ties:
                    for sender, receiver in (tie, tie[::-1]):
                        self.assertEqual(league.knows(receiver), known_without(league, receiver))
                        card = card_now(league, sender, receiver)
                        if card is None:
                            clashes += 1
                            web = known_without(league, sender, receiver)
                            self.is_ring(web, self.raises(Clash, lambda: league.send(sender, receiver)).ring)
                        else:
                            self.assertEqual(league.letter(league.send(sender, receiver))[2], card)
        self.assertGreater(clashes, 10)


class Horizons(WebCase):
    def test_behind_each_deed(self):
        league = three()
        told = []
        for deed in (
            lambda: league.enter("anna", 0, CERT), lambda: league.send("anna", "bert"), lambda: league.enter("anna", 0, CERT), lambda: league.deliver(0), lambda: league.send("bert", "cora"),
            lambda: league.enter("bert", 0, CERT), lambda: league.deliver(1), lambda: league.send("anna", "bert"), lambda: league.deliver(2), lambda: league.deliver(0),
        ):
            deed()
            told.append([league.horizon(name) for name in NAMES])
        none = None
        self.assertEqual(told, [
            [(1, none, none), (none, 0, none), (none, none, 0)],
            [(1, none, none), (none, 0, none), (none, none, 0)],
            [(2, none, none), (none, 0, none), (none, none, 0)],
            [(2, none, none), (1, 0, none), (none, none, 0)],
            [(2, none, none), (1, 0, none), (none, none, 0)],
            [(2, none, none), (1, 1, none), (none, none, 0)],
            [(2, none, none), (1, 1, none), (1, 0, 0)],
            [(2, none, none), (1, 1, none), (1, 0, 0)],
            [(2, none, none), (2, 1, none), (1, 0, 0)],
            [(2, none, none), (2, 1, none), (1, 0, 0)],
        ])
        self.assertIs(type(league.horizon("anna")), tuple)
        self.assertEqual([league.letter(number)[3] for number in range(3)], [(1, none, none), (1, 0, none), (2, none, none)])

    def test_what_a_house_knows_is_what_the_books_at_its_horizon_say_together(self):
        rng = random.Random(39)
        clashes = 0
        for _ in range(40):
            league = random_league(rng, rng.randint(2, 5), narrow=rng.random() < 0.5)
            for _ in range(5):
                some_deeds(rng, league, 5)
                for name in league.houses:
                    web = league.knows(name)
                    whole = joined(league, league.horizon(name))
                    self.assertEqual(web.bad_ring() is None, whole.bad_ring() is None)
                    spots = league.book_of(name).charter.all_spots()
                    if web.bad_ring() is None:
                        self.assertEqual(card_of(web, spots), card_of(whole, spots))
                    else:
                        clashes += 1
        self.assertGreater(clashes, 5)


class Copies(WebCase):
    def test_they_go_on_by_themselves(self):
        league = three()
        league.enter("anna", 0, CERT)
        league.deliver(league.send("anna", "bert"))
        made = league.copy()
        self.assertIsInstance(made, League)
        self.assertIsNot(made, league)
        before = state_of(league)
        self.assertEqual(state_of(made), before)
        made.enter("bert", 0, CERT)
        made.deliver(made.send("bert", "anna"))
        self.assertEqual(state_of(league), before)
        after = state_of(made)
        league.enter("cora", 0, ("jolt", "peg", 1))
        league.send("anna", "bert")
        league.deliver(1)
        self.assertEqual(state_of(made), after)
        self.assertEqual((len(league), len(made)), (2, 2))


class Holding(WebCase):
    def setUp(self):
        self.league = three()
        self.league.enter("anna", 0, CERT)
        self.league.send("anna", "bert")
        self.before = state_of(self.league)

    def is_as_it_was(self):
        self.assertEqual(state_of(self.league), self.before)

    def change(self, league):
        league.enter("anna", 1, CERT)
        league.enter("bert", 1, CERT)
        league.deliver(0)
        return league.send("bert", "cora")

    def test_behind_the_block(self):
        with Held(self.league) as held:
            self.assertIs(held, self.league)
            self.assertEqual(self.change(held), 1)
            self.assertEqual((len(self.league), self.league.kept("bert", "anna")), (2, 0))
        self.is_as_it_was()

    def test_behind_an_error(self):
        for error in (KeyError, NoLetter):
            with self.assertRaises(error):
                with Held(self.league) as held:
                    self.change(held)
                    if error is KeyError:
                        raise KeyError("x")
                    held.deliver(9)
            self.is_as_it_was()

    def test_one_within_another(self):
        with Held(self.league) as held:
            held.deliver(0)
            inside = state_of(held)
            with Held(held) as inner:
                self.change(inner)
                with Held(self.league):
                    self.league.send("anna", "bert")
                self.assertEqual(len(held), 2)
            self.assertEqual(state_of(self.league), inside)
            self.assertEqual(held.send("bert", "cora"), 1)
        self.is_as_it_was()

    def test_used_again(self):
        held = Held(self.league)
        for _ in range(2):
            with held as league:
                self.change(league)
            self.is_as_it_was()
        self.league.enter("cora", 0, ("jolt", "peg", 1))
        before = state_of(self.league)
        # The league as it is when the block begins.
        with held as league:
            self.change(league)
        self.assertEqual(state_of(self.league), before)

    def test_copies_taken_in_the_block_go_on(self):
        with Held(self.league) as held:
            self.change(held)
            made = held.copy()
        self.is_as_it_was()
        self.assertEqual((len(made), made.kept("bert", "anna")), (2, 0))
        self.assertEqual(made.send("cora", "bert"), 2)

    DEEDS = (("enter", "bert", 1, CERT), ("deliver", 0), ("send", "bert", "cora"), ("deliver", 1), ("enter", "bert", 2, ("strike", 0)))

    def test_attempted(self):
        for deeds in (self.DEEDS, list(self.DEEDS)):
            made = attempted(self.league, deeds)
            self.is_as_it_was()
            self.assertIsNot(made, self.league)
            self.assertEqual((len(made), made.kept("cora", "bert"), len(made.book_of("bert"))), (2, 1, 2))
            self.assertEqual(made.letter(1)[3], (1, 1, None))
        for deed in self.DEEDS:
            call = {"enter": self.league.enter, "send": self.league.send, "deliver": self.league.deliver}[deed[0]]
            call(*deed[1:])
        self.assertEqual(state_of(made), state_of(self.league))

    def test_no_deeds(self):
        made = attempted(self.league, [])
        self.assertIsNot(made, self.league)
        self.assertEqual(state_of(made), self.before)
        made.deliver(0)
        self.is_as_it_was()

    def test_a_bad_deed_at_each_place(self):
        for place in range(len(self.DEEDS) + 1):
            for deed, error, kept in (
                (("enter", "dora", 0, CERT), NoHouse, {"name": "dora"}), (("enter", "bert", 3, CERT), BadDay, {"day": 3}), (("enter", "bert", 2, ("jolt", "slot", 1)), BadNews, {"place": 1}),
                (("send", "anna", "cora"), NoTie, {"sender": "anna", "receiver": "cora"}), (("send", "dora", "cora"), NoHouse, {"name": "dora"}), (("deliver", 5), NoLetter, {"number": 5}),
                (("deliver", True), NoLetter, {"number": True}), (("deliver", -1), NoLetter, {"number": -1}),
            ):
                deeds = self.DEEDS[:place] + (deed,) + self.DEEDS[place:]
                self.raises(error, lambda: attempted(self.league, deeds), **kept)
                self.is_as_it_was()

    def test_a_clash_among_the_deeds(self):
        narrow = ("enter", "bert", 0, ("cert", "bore", 0, 0, 1, 1, "ground", 0, 40, 50))
        self.raises(Clash, lambda: attempted(self.league, [narrow, ("deliver", 0), ("send", "bert", "cora")]))
        self.is_as_it_was()
        self.assertEqual(len(attempted(self.league, [narrow, ("send", "bert", "cora"), ("deliver", 0)])), 2)

    def test_attempted_within_held(self):
        with Held(self.league) as held:
            held.deliver(0)
            made = attempted(held, [("send", "bert", "cora")])
            self.assertEqual((len(held), len(made)), (1, 2))
            self.assertEqual(held.kept("bert", "anna"), 0)
        self.is_as_it_was()


class Speed(WebCase):
    def test_five_houses_with_many_letters(self):
        things = charter((DIAL, RING, RULE), (BORE, SLOT, PEG), days=10)
        names = ("anna", "bert", "cora", "dora", "emil")
        for ties in ([("anna", name) for name in names[1:]], list(zip(names, names[1:]))):
            league = League([(name, Book(things)) for name in names], ties)
            rng = random.Random(1)
            start = time.time()
            for number in range(60):
                enter_some(rng, league, rng.choice(names))
                tie = rng.choice(ties)
                try:
                    league.deliver(league.send(*(tie if number % 2 else tie[::-1])))
                except Clash:
                    pass
            for name in names:
                league.knows(name).bad_ring()
            self.assertLess(time.time() - start, 20)
            self.assertGreater(len(league), 5)

    def test_a_long_row_settles(self):
        things = charter((DIAL, RING), (BORE, SLOT), days=12)
        names = ("anna", "bert", "cora", "dora", "emil")
        league = League([(name, Book(things)) for name in names], list(zip(names, names[1:])))
        for number, name in enumerate(names):
            league.enter(name, 0, ("cert", "bore", 0, 0, number, number, "ground", 0, 20, 60 - number))
        start = time.time()
        self.assertEqual(len(settle(league)), 8)
        self.assertLess(time.time() - start, 20)


if __name__ == "__main__":
    unittest.main()
