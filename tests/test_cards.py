"""[35] cards: what they are, as webs, of webs, cut, entered, and how they meet; [1] what is copied."""

import random
import time
import unittest

from ellwarden.cards import Card, card_of
from ellwarden.errors import BadCard, Clash, NoSpot
from ellwarden.charters import Charter
from ellwarden.forms import Form
from ellwarden.ends import greatest, least
from ellwarden.pieces import slim
from ellwarden.quantities import verdict
from ellwarden.standing import denying
from ellwarden.webs import Web
from ellwarden.worlds import GROUND, World
from brute import corners
from samples import STRANGE, device, feature, swapped
from test_ends import BROKEN, some_form, web_with_a_world
from test_webs import WebCase, all_bounds, random_web, tied

A, B, C, D = ("a", 0, 0), ("b", 1, 2), ("c", 0, 0), ("d", 0, 0)
SPOTS = (GROUND, A, B)
ROWS = ((0, 9, 4), (-2, 0, 2), (3, 5, 0))
CARD = Card(SPOTS, ROWS)
WHY = ("card",)
# Webs of both cards have a bound of their own for the gap between a and b.
WEB = Web([GROUND, A, B, C], tied(A, 2, 9) + tied(B, -3, 4) + tied(C, 0, 20) + [(A, B, 2, ("news", 0)), (B, A, 5, ("news", 1)), (A, C, 3, ("news", 2))])
LONG = 10 ** 30


class CardCase(WebCase):
    def is_closed(self, card):
        """A card, word for word."""
        self.assertIsInstance(card, Card)
        self.assertIs(type(card.spots), tuple)
        self.assertIs(type(card.rows), tuple)
        self.assertEqual([type(row) for row in card.rows], [tuple] * len(card.spots))
        self.assertEqual([len(row) for row in card.rows], [len(card.spots)] * len(card.spots))
        places = range(len(card.spots))
        for a in places:
            self.assertEqual(card.rows[a][a], 0)
            for b in places:
                for c in places:
                    self.assertLessEqual(card.rows[a][c], card.rows[a][b] + card.rows[b][c])

    def are_bounds(self, card, bounds, spots=None):
        """A card with just these bounds of pairs of spots."""
        self.is_closed(card)
        if spots is not None:
            self.assertEqual(card.spots, tuple(spots))
        for a, row in zip(card.spots, card.rows):
            for b, bound in zip(card.spots, row):
                self.assertEqual(bound, bounds[a, b])
                self.assertEqual(card[a, b], bound)

    def is_ring_of(self, ring, *cards, more=()):
        """A ring with a bound below 0, of links of these cards as webs, and of more."""
        links = [link for card in cards for link in card.as_web()] + list(more)
        self.assertIs(type(ring), tuple)
        self.assertGreaterEqual(len(ring), 1)
        for place, link in enumerate(ring):
            self.assertIn(link, links)
            self.assertEqual(ring[place - 1][1], link[0])
        self.assertEqual(len({link[0] for link in ring}), len(ring))
        self.assertLess(sum(link[2] for link in ring), 0)


class Making(CardCase):
    def test_attributes(self):
        for spots, rows in ((SPOTS, ROWS), (list(SPOTS), [list(row) for row in ROWS]), (SPOTS, [ROWS[0], list(ROWS[1]), ROWS[2]])):
            card = Card(spots, rows)
            self.assertEqual((card.spots, card.rows), (SPOTS, ROWS))
            self.is_closed(card)
        card = Card([GROUND], [[0]])
        self.assertEqual((card.spots, card.rows), ((GROUND,), ((0,),)))

    def test_a_card_stays_when_what_was_passed_is_changed(self):
        spots, rows = list(SPOTS), [list(row) for row in ROWS]
        card = Card(spots, rows)
        spots.clear()
        rows[0][1] = 99
        rows.pop()
        self.assertEqual((card.spots, card.rows), (SPOTS, ROWS))
        self.assertEqual(card, CARD)

    def test_bounds(self):
        for a, row in zip(SPOTS, ROWS):
            for b, bound in zip(SPOTS, row):
                self.assertEqual(CARD[a, b], bound)

    def test_bounds_of_strange_spots(self):
        for spot in (C, ("a", False, 0), ("b", True, 2), ("b", 1, 2.0), ["a", 0, 0], ("ground", 0, False), ("ground", 0, 1)) + STRANGE:
            self.raises(NoSpot, lambda: CARD[spot, A], spot=spot)
            self.raises(NoSpot, lambda: CARD[A, spot], spot=spot)
            self.raises(NoSpot, lambda: CARD[spot, D], spot=spot)
            self.assertNotIn(spot, CARD)

    def test_spots(self):
        self.assertEqual(len(CARD), 3)
        self.assertEqual(len(Card([GROUND], [[0]])), 1)
        self.assertEqual(list(CARD), list(SPOTS))
        self.assertEqual(tuple(CARD), SPOTS)
        for spot in SPOTS:
            self.assertIn(spot, CARD)
        self.assertEqual([spot for spot in CARD], [spot for spot in CARD])

    def test_equal(self):
        self.assertEqual(CARD, Card(list(SPOTS), [list(row) for row in ROWS]))
        self.assertFalse(CARD != Card(SPOTS, ROWS))
        for a in SPOTS:
            for b in SPOTS:
                if a != b:
                    self.assertNotEqual(CARD, CARD.entered(a, b, CARD[a, b] - 1))
        self.assertNotEqual(CARD, Card((GROUND, A, C), ROWS))
        # In another order the same bounds make another card.
        self.assertNotEqual(CARD, CARD.cut([B, A]))
        self.assertNotEqual(CARD, Card([GROUND], [[0]]))
        for thing in (None, 0, SPOTS, ROWS, (SPOTS, ROWS), CARD.as_web(), "card", [GROUND, A, B]):
            self.assertFalse(CARD == thing)
            self.assertTrue(CARD != thing)

    def test_long_bounds(self):
        spots = (GROUND, A)
        for much in (LONG, 10 ** 399):
            self.assertEqual(Card(spots, [[0, much], [-much, 0]])[A, GROUND], -much)
            self.assertEqual(Card(spots, [[0, much], [1 - much, 0]])[GROUND, A], much)
            self.raises(BadCard, lambda: Card(spots, [[0, much], [-much - 1, 0]]), place=-1)
            wide = Card((GROUND, A, B), [[0, much, much], [much, 0, 2 * much], [much, 2 * much, 0]])
            self.assertEqual(wide.entered(A, B, -much)[GROUND, B], 0)
            self.assertEqual(wide.as_web().bound(A, B), 2 * much)


class Refused(CardCase):
    def bad(self, spots, rows, place):
        self.raises(BadCard, lambda: Card(spots, rows), place=place)

    def test_no_spots(self):
        for row in ((), []):
            self.bad(row, ROWS, 0)
            self.bad(row, (), 0)

    def test_each_place_of_spots(self):
        for thing in (A[:2], A + (0,), list(A), ("a", True, 0), ("a", 0, False), ("a", 0.0, 0), (1, 0, 0), (None, 0, 0), ("a", "0", 0)) + STRANGE:
            for place in range(3):
                self.bad(swapped(SPOTS, place, thing), ROWS, place)
                self.bad(list(swapped(SPOTS, place, thing)), None, place)
                # The first one, whatever is behind it.
                self.bad(SPOTS[:place] + (thing, thing, A, A), (), place)

    def test_the_ground(self):
        self.bad((A,), [[0]], 0)
        self.bad((A, GROUND, B), ROWS, 0)
        self.bad((("ground", 0, 1), A, B), ROWS, 0)
        self.bad((("ground", False, 0), A, B), ROWS, 0)
        self.bad((GROUND, GROUND, B), ROWS, 1)
        self.bad((GROUND, A, GROUND), ROWS, 2)

    def test_a_spot_that_was_there_before(self):
        self.bad((GROUND, A, A), ROWS, 2)
        self.bad((GROUND, A, B, C, A, C), ROWS, 4)

    def test_each_place_of_rows(self):
        for place, row in enumerate(ROWS):
            faults = [None, 5, "row", {}, (), [], row[:2], row + (0,), row[1:], set(row), {0: 0, 1: 0, 2: 0}, "000"]
            for at in range(3):
                for thing in (True, False, "0", "1", [0], (0,), None, 1.0, 0.0, (1, 1)):
                    faults.append(swapped(row, at, thing))
            faults += [swapped(row, place, number) for number in (1, -1, LONG)]
            for fault in faults:
                self.bad(SPOTS, swapped(ROWS, place, fault), place)
                self.bad(list(SPOTS), list(swapped(ROWS, place, fault)), place)
                # The first one, whatever is behind it; and ahead of a wrong number of rows.
                self.bad(SPOTS, ROWS[:place] + (fault, None, ()), place)
                self.bad(SPOTS, ROWS[:place] + (fault,), place)

    def test_a_row_that_is_zero_everywhere_but_at_its_own_place(self):
        self.bad((GROUND, A), [[1, 0], [0, 0]], 0)
        self.bad((GROUND, A), [[0, 0], [0, 1]], 1)
        self.bad((GROUND,), [[1]], 0)

    def test_spots_ahead_of_rows(self):
        self.bad((GROUND, A, None), (None, None, None), 2)
        self.bad((GROUND, A, A), (None,), 2)

    def test_too_few_and_too_many_rows(self):
        for rows in ((), ROWS[:1], ROWS[:2], ROWS + ROWS[:1], ROWS + (None,), [*ROWS, ()]):
            self.bad(SPOTS, rows, -1)
        # What is beyond the rows that there must be is not looked at.
        self.bad(SPOTS, swapped(ROWS, 1, (0, 1, 0)) + (None,), 1)

    def test_tables_that_are_just_closed(self):
        for a in range(3):
            for b in range(3):
                for c in range(3):
                    if len({a, b, c}) < 3:
                        continue
                    rows = [[0, 10, 10], [10, 0, 10], [10, 10, 0]]
                    rows[a][c] = 20
                    self.assertEqual(Card(SPOTS, rows).rows[a][c], 20)
                    rows[a][c] = 21
                    self.bad(SPOTS, rows, -1)

    def test_two_spots_that_are_just_closed(self):
        self.assertEqual(Card((GROUND, A), [[0, 5], [-5, 0]])[A, GROUND], -5)
        self.bad((GROUND, A), [[0, 5], [-6, 0]], -1)
        self.bad((GROUND, A), [[0, -1], [0, 0]], -1)

    def test_all_closed_tables_of_some_numbers(self):
        rng = random.Random(35)
        for _ in range(300):
            rows = [[0 if a == b else rng.randint(-2, 4) for b in range(4)] for a in range(4)]
            spots = (GROUND, A, B, C)
            if all(rows[a][c] <= rows[a][b] + rows[b][c] for a in range(4) for b in range(4) for c in range(4)):
                self.assertEqual(Card(spots, rows).rows, tuple(map(tuple, rows)))
            else:
                self.bad(spots, rows, -1)


class AsWebs(CardCase):
    def test_links_in_order(self):
        self.assertEqual(CARD.as_web(), Web(SPOTS, [
            (GROUND, A, 9, WHY), (GROUND, B, 4, WHY), (A, GROUND, -2, WHY), (A, B, 2, WHY), (B, GROUND, 3, WHY), (B, A, 5, WHY),
        ]))
        self.assertEqual(Card([GROUND], [[0]]).as_web(), Web([GROUND], []))

    def test_the_card_of_a_card_as_a_web_is_the_card(self):
        rng = random.Random(1)
        for _ in range(20):
            card = card_of(web_with_a_world(rng, 5, 8), [("s", 0, number) for number in range(5)])
            self.assertEqual(card_of(card.as_web(), card.spots), card)

    def test_worlds(self):
        web = CARD.as_web()
        self.assertTrue(web.allows(World([(GROUND, (0, 1)), (A, (2, 1)), (B, (4, 1))])))
        self.assertTrue(web.allows(World([(GROUND, (0, 1)), (A, (5, 2)), (B, (-5, 2))])))
        self.assertFalse(web.allows(World([(GROUND, (0, 1)), (A, (2, 1)), (B, (9, 2))])))


class OfWebs(CardCase):
    def test_bounds(self):
        card = card_of(WEB, [A, B])
        self.assertEqual((card.spots, card.rows), (SPOTS, ((0, 6 + 3, 4), (-2, 0, 2), (3, 5, 0))))
        self.are_bounds(card_of(WEB, [C, A]), all_bounds(WEB), (GROUND, C, A))

    def test_the_ground_and_each_spot_once(self):
        for spots in ([A, B], (A, B), [GROUND, A, B], [A, GROUND, B], [A, B, GROUND], [A, B, A], [A, A, GROUND, B, GROUND, A, B]):
            card = card_of(WEB, spots)
            self.assertEqual(card.spots, SPOTS)
            self.assertEqual(card, card_of(WEB, [A, B]))
        self.assertEqual(card_of(WEB, [B, A, B]).spots, (GROUND, B, A))
        for spots in ([], (), [GROUND], [GROUND, GROUND]):
            self.assertEqual(card_of(WEB, spots), Card([GROUND], [[0]]))

    def test_the_first_foreign_spot_ahead_of_a_clash(self):
        for web in (WEB, BROKEN, Web([GROUND, A], tied(A, 3, 2))):
            for spot in (D, ("a", False, 0), ["a", 0, 0], None, ("ground", 0, 1), True):
                self.raises(NoSpot, lambda: card_of(web, [A, spot, ("zzz", 0, 0)]), spot=spot)
                self.raises(NoSpot, lambda: card_of(web, (spot,)), spot=spot)
        for spots in ([], [A], [GROUND]):
            self.is_ring(BROKEN, self.raises(Clash, lambda: card_of(BROKEN, spots)).ring)

    def test_rows_of_the_caller_stay(self):
        spots = [B, A, GROUND]
        card_of(WEB, spots)
        self.assertEqual(spots, [B, A, GROUND])

    def test_random_webs(self):
        rng = random.Random(2)
        for _ in range(60):
            web = random_web(rng)
            bounds = all_bounds(web)
            spots = [rng.choice(web.spots) for _ in range(rng.randint(0, 6))]
            if bounds is None:
                self.is_ring(web, self.raises(Clash, lambda: card_of(web, spots)).ring)
            else:
                self.are_bounds(card_of(web, spots), bounds, dict.fromkeys([GROUND] + spots))

    def test_worlds_of_the_card_are_what_worlds_of_the_web_give_to_its_spots(self):
        rng = random.Random(3)
        for _ in range(15):
            web = web_with_a_world(rng, 4, 5)
            named = rng.sample(web.spots[1:], 2)
            small = card_of(web, named).as_web()
            for values in corners(web):
                self.assertTrue(small.allows(World([(spot, (values[spot], 1)) for spot in small.spots])))
            for values in corners(small):
                # Held at these values, the web still has a world.
                links = [link for spot in named for link in tied(spot, values[spot], values[spot])]
                self.assertIsNone(web.more(links).bad_ring())

    def test_ends_verdicts_and_claims_are_the_same(self):
        rng = random.Random(4)
        for _ in range(30):
            web = web_with_a_world(rng, 5, 8)
            named = rng.sample(web.spots[1:], 3)
            small = card_of(web, named).as_web()
            form = some_form(rng, named, 2)
            self.assertEqual(greatest(web, form).value, greatest(small, form).value)
            self.assertEqual(least(web, form).value, least(small, form).value)
            for word in ("product", "quotient"):
                quantity = (word, form.plain(), some_form(rng, named, 1).plain() if word == "product" else Form.of(named[0]).plain(), (1, 2), (0,))
                claim = ("within", quantity, (rng.randint(-400, 0), 1), (rng.randint(0, 400), 1))
                self.assertEqual(denying(web, claim) is None, denying(small, claim) is None)
            found = verdict(web, ("sum", form.plain(), (0,)), (3, 1), (11, 2)).word
            self.assertEqual(verdict(small, ("sum", form.plain(), (0,)), (3, 1), (11, 2)).word, found)

    def test_equal_cards_have_the_same_worlds_and_other_cards_have_not(self):
        rng = random.Random(5)
        cards = [card_of(web_with_a_world(rng, 2, 1), [("s", 0, 0), ("s", 0, 1)]) for _ in range(30)]
        cards += [Card(card.spots, card.rows) for card in cards[:5]]
        for card in cards:
            for other in cards:
                same = sorted(map(str, corners(card.as_web()))) == sorted(map(str, corners(other.as_web())))
                self.assertEqual(card == other, same)


class Cut(CardCase):
    def test_the_ground_and_each_spot_once(self):
        card = card_of(WEB, [A, B, C])
        for spots in ([C, A], (C, A), [GROUND, C, A], [C, GROUND, A], [C, A, C, GROUND, A]):
            self.are_bounds(card.cut(spots), all_bounds(WEB), (GROUND, C, A))
        for spots in ([], (), [GROUND], (GROUND, GROUND)):
            self.assertEqual(card.cut(spots), Card([GROUND], [[0]]))
        self.assertEqual(card.cut([A, B, C]), card)
        self.assertEqual(card.cut(card.spots), card)

    def test_foreign_spots(self):
        for spot in (C, ("a", False, 0), ["a", 0, 0], None, ("ground", 0, 1), True):
            self.raises(NoSpot, lambda: CARD.cut([A, spot, D]), spot=spot)
            self.raises(NoSpot, lambda: CARD.cut((spot,)), spot=spot)

    def test_it_is_the_card_of_its_web(self):
        rng = random.Random(6)
        for _ in range(30):
            card = card_of(web_with_a_world(rng, 5, 8), [("s", 0, number) for number in range(5)])
            spots = [rng.choice(card.spots) for _ in range(rng.randint(0, 5))]
            self.assertEqual(card.cut(spots), card_of(card.as_web(), spots))

    def test_the_card_stays(self):
        card = Card(SPOTS, ROWS)
        card.cut([B])
        self.assertEqual((card.spots, card.rows), (SPOTS, ROWS))
        self.assertEqual(card[A, B], 2)


class Entered(CardCase):
    def test_bounds_that_change_nothing(self):
        for a in SPOTS:
            for b in SPOTS:
                for more in (0, 1, LONG):
                    if a != b:
                        self.assertEqual(CARD.entered(a, b, CARD[a, b] + more), CARD)

    def test_bounds_that_change_some(self):
        card = CARD.entered(GROUND, A, 5)
        self.assertEqual(card.rows, ((0, 5, 4), (-2, 0, 2), (3, 5, 0)))
        card = CARD.entered(A, B, -3)
        self.assertEqual(card.rows, ((0, 9, 4), (-2, 0, -3), (3, 5, 0)))
        # b is now at most 0, and a at most 5.
        card = CARD.entered(GROUND, B, 0)
        self.assertEqual(card.rows, ((0, 5, 0), (-2, 0, -2), (3, 5, 0)))

    def test_bounds_that_just_leave_a_world(self):
        for a in SPOTS:
            for b in SPOTS:
                if a != b:
                    card = CARD.entered(a, b, -CARD[b, a])
                    self.is_closed(card)
                    self.assertEqual((card[a, b], card[b, a]), (-CARD[b, a], CARD[b, a]))

    def test_bounds_that_leave_none(self):
        for a in SPOTS:
            for b in SPOTS:
                for less in (1, 7, LONG):
                    if a != b:
                        bound = -CARD[b, a] - less
                        ring = self.raises(Clash, lambda: CARD.entered(a, b, bound)).ring
                        self.is_ring_of(ring, CARD, more=[(a, b, bound, WHY)])

    def test_foreign_spots(self):
        for spot in (C, ("a", False, 0), ["a", 0, 0], None):
            self.raises(NoSpot, lambda: CARD.entered(spot, D, -LONG), spot=spot)
            self.raises(NoSpot, lambda: CARD.entered(A, spot, -LONG), spot=spot)

    def test_it_is_the_card_of_the_web_with_the_link(self):
        rng = random.Random(7)
        for _ in range(150):
            card = card_of(web_with_a_world(rng, 4, 6), [("s", 0, number) for number in range(4)])
            a, b = rng.sample(card.spots, 2)
            bound = card[a, b] - rng.randint(-2, 20)
            web = card.as_web().more([(a, b, bound, WHY)])
            if web.bad_ring() is None:
                self.are_bounds(card.entered(a, b, bound), all_bounds(web), card.spots)
            else:
                self.is_ring_of(self.raises(Clash, lambda: card.entered(a, b, bound)).ring, card, more=[(a, b, bound, WHY)])

    def test_the_order_in_which_links_are_put_in_does_not_matter(self):
        rng = random.Random(8)
        for _ in range(30):
            card = card_of(web_with_a_world(rng, 4, 2), [("s", 0, number) for number in range(4)])
            world = card.as_web().highest()
            links = []
            for _ in range(4):
                a, b = rng.sample(card.spots, 2)
                links.append((a, b, world.gap(a, b)[0] + rng.randint(0, 3)))
            made = []
            for row in (links, links[::-1], links[2:] + links[:2]):
                found = card
                for link in row:
                    found = found.entered(*link)
                made.append(found)
            self.assertEqual(made[0], made[1])
            self.assertEqual(made[0], made[2])

    def test_the_card_stays(self):
        card = Card(SPOTS, ROWS)
        card.entered(GROUND, A, 3)
        self.raises(Clash, lambda: card.entered(GROUND, A, -3))
        self.assertEqual(card, CARD)


class Meeting(CardCase):
    def test_no_spots_in_common_but_the_ground(self):
        other = Card((GROUND, C, D), [[0, 5, 6], [1, 0, 3], [2, 4, 0]])
        card = CARD & other
        self.assertEqual(card.spots, (GROUND, A, B, C, D))
        self.assertEqual(card.rows, ((0, 9, 4, 5, 6), (-2, 0, 2, 3, 4), (3, 5, 0, 8, 9), (1, 10, 5, 0, 3), (2, 11, 6, 4, 0)))
        self.assertEqual((other & CARD).spots, (GROUND, C, D, A, B))

    def test_all_spots_in_common(self):
        other = CARD.entered(A, B, -1).entered(GROUND, B, 3)
        loose = CARD.entered(GROUND, A, 6)
        self.assertEqual(CARD & other, other)
        self.assertEqual(other & CARD, other)
        self.assertEqual(other & loose, CARD.entered(A, B, -1).entered(GROUND, B, 3).entered(GROUND, A, 6))
        self.assertEqual(CARD & CARD, CARD)

    def test_in_another_order(self):
        other = CARD.entered(A, B, -1).cut([B, A])
        self.assertEqual(CARD & other, CARD.entered(A, B, -1))
        self.assertEqual(other & CARD, other)

    def test_some_spots_in_common(self):
        # c is at most 1 above b, and b at most 2 above a.
        other = Card((GROUND, C, B), [[0, 9, 9], [9, 0, 9], [9, 1, 0]])
        card = CARD & other
        self.assertEqual(card.spots, (GROUND, A, B, C))
        self.assertEqual(card[B, C], 1)
        self.assertEqual(card[A, C], 3)
        self.assertEqual(card[C, A], 14)
        self.are_bounds(card, all_bounds(CARD.as_web() + other.as_web()))

    def test_with_the_ground_alone(self):
        alone = Card([GROUND], [[0]])
        self.assertEqual(CARD & alone, CARD)
        self.assertEqual(alone & CARD, CARD)
        self.assertEqual(alone & alone, alone)

    def test_a_clash(self):
        other = Card((GROUND, B), [[0, 9], [-5, 0]])
        ring = self.raises(Clash, lambda: CARD & other).ring
        self.is_ring_of(ring, CARD, other)
        self.is_ring_of(self.raises(Clash, lambda: other & CARD).ring, CARD, other)
        # It just does not clash.
        self.assertEqual((CARD & Card((GROUND, B), [[0, 9], [-4, 0]]))[B, GROUND], -4)

    def test_a_ring_through_several_spots_of_both(self):
        wide = [link for spot in (A, B, C) for link in tied(spot, -50, 50)]
        first = card_of(Web([GROUND, A, B, C], wide + [(A, B, 1, WHY), (C, GROUND, 1, WHY)]), [A, B, C])
        other = [(B, C, 1, WHY), (GROUND, A, -3, WHY)]
        second = card_of(Web([GROUND, C, A, B], wide + other), [C, A, B])
        card = first & second
        self.assertEqual((card[GROUND, C], card[C, A], card[C, GROUND]), (-1, -2, 1))
        second = card_of(Web([GROUND, C, A, B], wide + [(B, C, 1, WHY), (GROUND, A, -4, WHY)]), [C, A, B])
        ring = self.raises(Clash, lambda: first & second).ring
        self.is_ring_of(ring, first, second)
        self.assertGreater(len(ring), 2)

    def test_the_cards_stay(self):
        first, second = Card(SPOTS, ROWS), Card((GROUND, C, B), [[0, 9, 9], [9, 0, 9], [9, 1, 0]])
        first & second
        self.raises(Clash, lambda: first & Card((GROUND, B), [[0, 9], [-5, 0]]))
        self.assertEqual(first, CARD)
        self.assertEqual((second.spots, second.rows), ((GROUND, C, B), ((0, 9, 9), (9, 0, 9), (9, 1, 0))))

    def test_with_other_things(self):
        for thing in (None, 5, CARD.as_web(), ROWS):
            with self.assertRaises(TypeError):
                CARD & thing

    def random_cards(self, rng, many):
        names = [("s", 0, number) for number in range(6)]
        world = {spot: rng.randint(-20, 20) for spot in names}
        cards = []
        for _ in range(many):
            spots = rng.sample(names, rng.randint(1, 4))
            links = []
            if rng.random() < 0.5:
                world = {spot: world[spot] + rng.randint(-12, 12) for spot in names}
            for spot in spots:
                links += tied(spot, world[spot] - rng.randint(0, 9), world[spot] + rng.randint(0, 9))
            for _ in range(4):
                a, b = rng.choice(spots), rng.choice(spots)
                if a != b:
                    links.append((a, b, world[b] - world[a] + rng.randint(0, 5), WHY))
            web = Web([GROUND] + spots, links)
            if web.bad_ring() is None:
                cards.append(card_of(web, spots))
        return cards

    def test_random_cards(self):
        rng = random.Random(9)
        clashes = 0
        for _ in range(300):
            cards = self.random_cards(rng, 2)
            if len(cards) < 2:
                continue
            first, second = cards
            bounds = all_bounds(first.as_web() + second.as_web())
            if bounds is None:
                clashes += 1
                self.is_ring_of(self.raises(Clash, lambda: first & second).ring, first, second)
            else:
                self.are_bounds(first & second, bounds, dict.fromkeys(first.spots + second.spots))
        self.assertGreater(clashes, 20)

    def test_three_cards_in_any_order(self):
        rng = random.Random(10)
        met = 0
        for _ in range(200):
            cards = self.random_cards(rng, 3)
            if len(cards) < 3 or all_bounds(cards[0].as_web() + cards[1].as_web() + cards[2].as_web()) is None:
                continue
            met += 1
            a, b, c = cards
            whole = (a & b) & c
            self.assertEqual(a & (b & c), whole)
            for other in ((b & a) & c, c & (b & a), (c & a) & b, b & c & a):
                self.assertEqual(other.cut(whole.spots), whole)
        self.assertGreater(met, 20)

    def test_webs_that_have_only_spots_of_their_cards_in_common(self):
        rng = random.Random(11)
        for _ in range(40):
            world = {("s", 0, number): rng.randint(-9, 9) for number in range(8)}
            world[GROUND] = 0
            webs = []
            for names in (range(0, 5), range(3, 8)):
                spots = [GROUND] + [("s", 0, number) for number in names]
                links = [link for spot in spots[1:] for link in tied(spot, world[spot] - 9, world[spot] + 9)]
                for _ in range(9):
                    a, b = rng.sample(spots, 2)
                    links.append((a, b, world[b] - world[a] + rng.randint(0, 6), WHY))
                webs.append(Web(spots, links))
            # All common spots, and one more of each.
            common = [("s", 0, 3), ("s", 0, 4)]
            card = card_of(webs[0], common + [("s", 0, 0)]) & card_of(webs[1], [("s", 0, 7)] + common)
            self.assertEqual(card, card_of(webs[0] + webs[1], card.spots))


class Speed(CardCase):
    def test_cards_of_twenty_spots(self):
        rng = random.Random(12)
        webs = [web_with_a_world(rng, 20, 60) for _ in range(2)]
        start = time.time()
        cards = [card_of(web, web.spots) for web in webs]
        for card in cards:
            self.assertEqual(Card(card.spots, card.rows), card)
            self.assertEqual(card_of(card.as_web(), card.spots), card)
            self.assertEqual(card_of(slim(card.as_web()), card.spots), card)
            self.assertEqual(card & card, card)
            card.entered(GROUND, card.spots[3], card[GROUND, card.spots[3]] - 1)
        self.assertLess(time.time() - start, 10)

    def test_the_largest_charters(self):
        charter = Charter(
            days=20, bases=("length",), devices=[device(name, fall=3, rise=2, steep=4, slack=20, cuts=(3, 6)) for name in ("dial", "ring", "rule")],
            features=[feature(name, fall=1, rise=2) for name in ("bore", "slot")],
        )
        web = Web(charter.all_spots(), charter.own_links())
        self.assertEqual(len(web.spots), 221)
        start = time.time()
        card = card_of(web, web.spots)
        self.assertEqual(card[("dial", 0, 0), ("dial", 2, 5)], 8 + 10)
        self.assertEqual(len(card), 221)
        self.assertLess(time.time() - start, 10)


if __name__ == "__main__":
    unittest.main()
