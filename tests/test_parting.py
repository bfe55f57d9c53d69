"""[36] pressed slips; where two cards part, and the procedure that parts them."""

import itertools
import random
import unittest

from ellwarden.books import Book
from ellwarden.bookwebs import web_of
from ellwarden.cards import Card, card_of, pressed
from ellwarden.charters import Charter
from ellwarden.errors import BadCard, Clash
from ellwarden.parting import parted, parter
from ellwarden.reading import read_charter
from ellwarden.slips import Slip, slip_of
from ellwarden.webs import Web
from ellwarden.worlds import GROUND
from ellwarden.writing import write_charter
from samples import FIRST, device, feature, grains, house, keeper, procedure, sized
from test_cards import CardCase
from test_ends import web_with_a_world

A, B, C = ("a", 0, 0), ("b", 1, 2), ("c", 0, 0)
CARD = Card((GROUND, A, B), ((0, 9, 4), (-2, 0, 2), (3, 5, 0)))


class Parted(CardCase):
    def part(self, card, other, a, b):
        """They part at this pair, in both directions."""
        for first, second in ((card, other), (other, card)):
            found = parted(first, second)
            self.assertIs(type(found), tuple)
            self.assertEqual(found[:2], (a, b))
            greater = max((first, second), key=lambda one: one[a, b])
            self.is_world(greater.as_web(), found[2])
            self.assertEqual(found[2].gap(a, b), (greater[a, b], 1))
            self.assertFalse(min((first, second), key=lambda one: one[a, b]).as_web().allows(found[2]))

    def test_equal_cards(self):
        self.assertIsNone(parted(CARD, CARD))
        self.assertIsNone(parted(CARD, Card(CARD.spots, CARD.rows)))
        self.assertIsNone(parted(Card([GROUND], [[0]]), Card([GROUND], [[0]])))

    def test_the_first_pair(self):
        for a, b in itertools.permutations(CARD.spots, 2):
            other = CARD.entered(a, b, CARD[a, b] - 1)
            pairs = [(x, y) for x in CARD.spots for y in CARD.spots if CARD[x, y] != other[x, y]]
            self.part(CARD, other, *pairs[0])
        # By the place of the first spot, then of the second one.
        first = CARD.entered(A, B, 1)
        self.part(CARD, first, A, B)
        self.part(CARD, first.entered(B, A, 4), GROUND, A)
        self.part(CARD, first.entered(A, GROUND, -3), A, GROUND)
        self.part(CARD, first.entered(GROUND, B, 3), GROUND, A)
        self.part(CARD.cut([B, A]), first.entered(GROUND, B, 3).cut([B, A]), GROUND, B)

    def test_each_has_a_greater_bound_somewhere(self):
        left, right = CARD.entered(GROUND, A, 5), CARD.entered(A, B, 0)
        self.part(left, right, GROUND, A)
        self.assertEqual(parted(left, right)[2][A], (9, 1))
        self.part(CARD.entered(GROUND, B, 3), CARD.entered(B, GROUND, 1), GROUND, A)

    def test_spots_that_are_not_the_same_in_the_same_order(self):
        for other in (CARD.cut([B, A]), CARD.cut([A]), Card((GROUND, A, C), CARD.rows), Card([GROUND], [[0]])):
            self.raises(BadCard, lambda: parted(CARD, other), place=-1)
            self.raises(BadCard, lambda: parted(other, CARD), place=-1)
            self.raises(BadCard, lambda: parter(keeper(), CARD, other), place=-1)

    def test_random_cards(self):
        rng = random.Random(36)
        for _ in range(60):
            spots = [("s", 0, number) for number in range(4)]
            cards = [card_of(web_with_a_world(rng, 4, 4), spots) for _ in range(2)]
            pairs = [(a, b) for a in cards[0].spots for b in cards[0].spots if cards[0][a, b] != cards[1][a, b]]
            if pairs:
                self.part(*cards, *pairs[0])


DIAL, BORE, SLOT = ("dial", 0, 1), ("bore", 0, 1), ("slot", 0, 1)
# The dial has three stretches, from the marks 0, 4 and 7 on.
KEEPER = keeper()
WEB = Web(KEEPER.all_spots(), KEEPER.own_links())


def narrowed(*links):
    """The web of the charter with further links (a, b, bound)."""
    return WEB.more([(a, b, bound, ("news", 0)) for a, b, bound in links])


class Parter(CardCase):
    def parts(self, spots, first, second, *body, features=(), roles=(), handed=((), ())):
        """The procedure for the cards of two webs has this body and these parameters, and what it
        tells for each of them differs."""
        cards = [card_of(web, spots) for web in (first, second)]
        for row in (cards, cards[::-1]):
            charter, sizes, devices = parter(KEEPER, *row)
            self.assertIsInstance(charter, Charter)
            self.assertEqual(charter.procedures, (("parter", features, roles, body),))
            self.assertEqual((sizes, devices), handed)
            self.assertEqual((type(sizes), type(devices)), (tuple, tuple))
            self.assertEqual(charter, KEEPER.changed(procedures=charter.procedures))
            self.assertEqual(read_charter(write_charter(charter)), charter)
        a, b, _ = parted(*cards)
        rows = []
        for web, card in ((first, cards[0]), (second, cards[1])):
            run = Slip(charter, "parter", 1, sizes, devices, web)([])
            self.assertEqual((run.kind, len(run.rows)), ("done", 1))
            self.assertEqual(run.rows[0], ("told", "gap", (-card[b, a], 1), (card[a, b], 1), run.rows[0][4]))
            rows.append(run.rows)
            # So it is on a card with these spots, too.
            whole = card_of(web, [*spots, *[spot for spot in web.spots if spot[2] == 1]])
            self.assertEqual(Slip(charter, "parter", 1, sizes, devices, whole.as_web())([]).rows, run.rows)
        self.assertNotEqual(rows[0], rows[1])

    def test_the_ground_as_the_first_spot(self):
        body = ("tell", "gap", ("minus", ("size", "two"), grains(0)), "length")
        self.parts([BORE, DIAL], WEB, narrowed((GROUND, BORE, 60)), body, features=(("two", "length"),), handed=(("bore",), ()))
        body = ("tell", "gap", ("minus", ("offset", "two", 0), grains(0)), "length")
        self.parts([DIAL, BORE], WEB, narrowed((GROUND, DIAL, 7)), body, roles=(("two", "length"),), handed=((), ("dial",)))

    def test_the_ground_as_the_second_spot(self):
        body = ("tell", "gap", ("minus", grains(0), ("size", "one")), "length")
        self.parts([BORE, SLOT], WEB, narrowed((SLOT, GROUND, -3)), ("tell", "gap", ("minus", grains(0), ("size", "one")), "length"), features=(("one", "length"),), handed=(("slot",), ()))
        self.parts([BORE], WEB, narrowed((BORE, GROUND, -3)), body, features=(("one", "length"),), handed=(("bore",), ()))
        body = ("tell", "gap", ("minus", grains(0), ("offset", "one", 0)), "length")
        self.parts([("ring", 0, 1)], WEB, narrowed((("ring", 0, 1), GROUND, -3)), body, roles=(("one", "length"),), handed=((), ("ring",)))

    def test_two_features(self):
        body = ("tell", "gap", ("minus", ("size", "two"), ("size", "one")), "length")
        self.parts([BORE, SLOT], WEB, narrowed((BORE, SLOT, 12)), body, features=(("one", "length"), ("two", "length")), handed=(("bore", "slot"), ()))

    def test_a_device_and_a_feature(self):
        body = ("tell", "gap", ("minus", ("size", "two"), ("offset", "one", 4)), "length")
        spot = ("dial", 1, 1)
        self.parts([spot, BORE], WEB, narrowed((spot, BORE, 140)), body, features=(("two", "length"),), roles=(("one", "length"),), handed=(("bore",), ("dial",)))
        body = ("tell", "gap", ("minus", ("offset", "two", 7), ("size", "one")), "length")
        spot = ("dial", 2, 1)
        self.parts([BORE, spot], WEB, narrowed((BORE, spot, 12)), body, features=(("one", "length"),), roles=(("two", "length"),), handed=(("bore",), ("dial",)))

    def test_two_stretches_of_one_device(self):
        charter = house(FIRST, devices=(device("dial", steep=5, cuts=(4, 7), low=-3, slack=20),), features=(feature("bore"),), roles=(), jobs=())
        web = Web(charter.all_spots(), charter.own_links())
        first, last = ("dial", 0, 1), ("dial", 2, 1)
        cards = [card_of(one, [first, last]) for one in (web, web.more([(first, last, 3, ("news", 0))]))]
        made, sizes, devices = parter(charter, *cards)
        self.assertEqual(made.procedures, (("parter", (), (("one", "length"), ("two", "length")), (("tell", "gap", ("minus", ("offset", "two", 7), ("offset", "one", -3)), "length"),)),))
        self.assertEqual((sizes, devices), ((), ("dial", "dial")))
        rows = [Slip(made, "parter", 1, sizes, devices, one)([]).rows for one in (web, web.more([(first, last, 3, ("news", 0))]))]
        self.assertEqual([row[0][3] for row in rows], [(10, 1), (3, 1)])

    def test_another_base(self):
        body = ("tell", "gap", ("minus", ("offset", "two", 3), ("size", "one")), "time")
        beat, clock = ("beat", 0, 1), ("clock", 1, 1)
        self.parts([DIAL, beat, clock], WEB, narrowed((beat, clock, -2)), body, features=(("one", "time"),), roles=(("two", "time"),), handed=(("beat",), ("clock",)))

    def test_equal_cards(self):
        card = card_of(WEB, [BORE, DIAL])
        self.assertIsNone(parter(KEEPER, card, card_of(narrowed((GROUND, BORE, 100)), [BORE, DIAL])))

    def test_a_name_that_is_none_of_the_charter(self):
        cards = [card_of(web, [BORE]) for web in (WEB, narrowed((GROUND, BORE, 60)))]
        for parts, told in (
            ({}, "parter"),
            ({"jobs": ("parter",)}, "parterx"),
            ({"procedures": (("parter", (), (), ()),)}, "parterx"),
            ({"jobs": ("parter", "parterxx")}, "parterx"),
            ({"jobs": ("parter",), "roles": (("parterx", "length"),)}, "parterxx"),
            ({"jobs": ("parterx",)}, "parter"),
            ({"units": (("parter", (1, 0), (2, 1)),), "procedures": (("parterx", (), (), ()),), "jobs": ("parterxx",)}, "parterxxx"),
        ):
            charter = keeper(**parts)
            made, sizes, _ = parter(charter, *cards)
            self.assertEqual([entry[0] for entry in made.procedures], [told])
            self.assertEqual(sizes, ("bore",))
            self.assertEqual((made.jobs, made.roles, made.units), (charter.jobs, charter.roles, charter.units))

    def test_a_base_and_a_thing_of_this_name(self):
        charter = Charter(days=1, bases=("parter",), features=(feature("parterx", "parter"),))
        web = Web(charter.all_spots(), charter.own_links())
        spot = ("parterx", 0, 0)
        cards = [card_of(one, [spot]) for one in (web, web.more([(GROUND, spot, 60, ("news", 0))]))]
        made, sizes, _ = parter(charter, *cards)
        self.assertEqual((made.procedures[0][0], sizes), ("parterxx", ("parterx",)))

    def test_cards_of_books(self):
        rng = random.Random(37)
        spots = [spot for spot in KEEPER.all_spots() if spot[2] == 1]
        told = 0
        for _ in range(40):
            cards = []
            webs = []
            for _ in range(2):
                book = Book(KEEPER)
                for _ in range(rng.randint(0, 3)):
                    thing, other = rng.choice((("dial", "ground"), ("ring", "bore"), ("bore", "slot"), ("beat", "clock"), ("slot", "dial")))
                    low = rng.randint(-4, 2)
                    book.enter(0, ("cert", thing, 0, 0, rng.randint(0, 1), rng.randint(1, 2), other, 0, low, low + rng.randint(2, 9)))
                webs.append(web_of(book))
            if webs[0].bad_ring() is not None or webs[1].bad_ring() is not None:
                continue
            cards = [card_of(web, spots) for web in webs]
            if cards[0] == cards[1]:
                self.assertIsNone(parter(KEEPER, *cards))
                continue
            told += 1
            a, b, _ = parted(*cards)
            self.assertTrue(GROUND in (a, b) or KEEPER.base_of(a[0]) == KEEPER.base_of(b[0]))
            made, sizes, devices = parter(KEEPER, *cards)
            rows = [Slip(made, made.procedures[0][0], 1, sizes, devices, web)([]).rows for web in webs]
            self.assertNotEqual(rows[0], rows[1])
        self.assertGreater(told, 15)


ONE, TWO = sized("one"), sized("two")
READ = ("read", "one", "tool")
MAIN = procedure(
    READ, ("tell", "x", ONE, "mm"), ("choose", ("minus", ONE, TWO), grains(-10), grains(0), (READ, ("stop",)), (("read", "two", "tool"),), (READ, READ)),
    ("judge", "y", ("times", ONE, TWO), ("times", grains(20), grains(50)), ("times", grains(30), grains(90))),
    ("tell", "z", ("over", ("offset", "tool", 8), ("plus", TWO, grains(1))), "1"),
)


class Pressed(CardCase):
    CHARTER = house(MAIN)

    def slip(self, *news, roles=None, devices=("dial", "clock"), features=("bore", "slot", "beat")):
        book = Book.of(self.CHARTER, [(0, one) for one in news])
        return Slip(self.CHARTER, "main", 1, features, devices, web_of(book), roles)

    def test_what_it_has(self):
        slip = self.slip(roles=("gauge", ""))
        small = pressed(slip)
        self.assertIsInstance(small, Slip)
        self.assertIs(small.charter, slip.charter)
        self.assertEqual((small.procedure, small.day, small.features, small.devices, small.roles), (slip.procedure, 1, slip.features, slip.devices, ("gauge", "")))
        self.assertEqual(small.web, card_of(slip.web, slip.own_spots()).as_web())
        self.assertEqual(small.web.spots, slip.own_spots())
        self.assertEqual(pressed(small).web, small.web)

    def test_nobody(self):
        small = pressed(self.slip(devices=("nobody", "nobody")))
        self.assertEqual(small.devices, ("nobody", "nobody"))
        self.assertEqual(small([]).kind, "nobody")

    def test_a_clash(self):
        slip = self.slip(("cert", "slot", 0, 0, 0, 0, "ground", 0, 1, 2), ("cert", "slot", 0, 0, 0, 0, "ground", 0, 3, 4))
        self.is_ring(slip.web, self.raises(Clash, lambda: pressed(slip)).ring)

    def same_runs(self, slip, rows):
        small = pressed(slip)
        kinds = []
        for marks in rows:
            run, other = slip(marks), small(marks)
            self.assertEqual((run.kind, run.rows, run.reads, run.used, run.asked), (other.kind, other.rows, other.reads, other.used, other.asked))
            self.assertEqual((run.claims(), run.questions()), (other.claims(), other.questions()))
            self.assertEqual(list(slip.trace(marks)), list(small.trace(marks)))
            kinds.append(run.kind)
        return kinds

    def test_runs_of_both(self):
        rng = random.Random(38)
        kinds = []
        for _ in range(12):
            news = [("cert", "dial", 0, 2, 0, 2, "ground", 0, -rng.randint(0, 30), rng.randint(0, 30))]
            for _ in range(rng.randint(0, 3)):
                low = rng.randint(10, 60)
                news.append(("cert", rng.choice(("bore", "slot")), 0, 0, rng.randint(0, 1), rng.randint(1, 2), "ground", 0, low - 20, low + 20))
            slip = self.slip(*news, devices=rng.choice((("dial", "clock"), ("ring", "clock"), ("nobody", "clock"))))
            if slip.web.bad_ring() is None:
                rows = [[rng.randint(0, 9) for _ in range(rng.randint(0, 4))] for _ in range(25)]
                kinds += self.same_runs(slip, rows)
        for kind in ("done", "asks", "clash", "nobody"):
            self.assertIn(kind, kinds)

    def test_a_divisor_that_can_be_nought(self):
        charter = house(procedure(READ, ("tell", "x", ("over", ONE, TWO), "1")))
        slip = Slip(charter, "main", 1, ("bore", "slot", "beat"), ("dial", "clock"), Web(charter.all_spots(), charter.own_links()))
        self.assertEqual(self.same_runs(slip, [[4], [0], []]), ["nought", "nought", "asks"])

    def test_the_slip_of_a_book(self):
        book = Book.of(KEEPER, [(0, ("stand", "gauge", "dial", 0, 2)), (0, ("edition", "fit", "first", 0, 2)), (0, ("cert", "dial", 0, 2, 0, 2, "ground", 0, 0, 0))])
        slip = slip_of(book, "fit", 1, ["bore"], ["gauge"])
        self.assertEqual(pressed(slip).roles, ("gauge",))
        self.same_runs(slip, [[4], [9, 9], []])


if __name__ == "__main__":
    unittest.main()
