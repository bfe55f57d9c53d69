"""[16], its last paragraph: pieces, and worlds that are put together; [17] links that follow, and slim webs."""

import random
import unittest

from ellwarden.cards import card_of
from ellwarden.charters import Charter
from ellwarden.errors import BadWorld, Clash, NoSpot
from ellwarden.pieces import follows, pieces, put_together, slim
from ellwarden.webs import Web
from ellwarden.worlds import GROUND, World
from samples import STRANGE, device, feature
from test_ends import BROKEN, web_with_a_world
from test_webs import WebCase, all_bounds, random_web, tied

A, B, C, D, E = ("a", 0, 0), ("b", 0, 0), ("c", 0, 0), ("d", 0, 0), ("e", 0, 0)
WHY = ("news", 0)
RANGES = tied(A, 0, 9) + tied(B, 0, 9) + tied(C, 0, 9) + tied(D, 0, 9) + tied(E, 0, 9)
SPOTS = [GROUND, A, B, C, D, E]


def world(*values):
    return World([(GROUND, (0, 1))] + [(spot, (value, 1)) for spot, value in zip(SPOTS[1:], values)])


class Pieces(WebCase):
    def test_links_that_touch_the_ground_join_nothing(self):
        self.assertEqual(pieces(Web(SPOTS, RANGES)), ((A,), (B,), (C,), (D,), (E,)))
        self.assertEqual(pieces(Web([GROUND], [])), ())

    def test_links_in_either_direction(self):
        for link in ((A, D, 3, WHY), (D, A, 3, WHY)):
            self.assertEqual(pieces(Web(SPOTS, RANGES + [link])), ((A, D), (B,), (C,), (E,)))
        self.assertEqual(pieces(Web(SPOTS, RANGES + [(C, E, 3, WHY), (E, B, 3, WHY)])), ((A,), (B, C, E), (D,)))
        self.assertEqual(pieces(Web(SPOTS, RANGES + [(E, A, 3, WHY), (D, B, 3, WHY), (B, E, 1, WHY)])), ((A, B, D, E), (C,)))

    def test_in_the_order_of_the_web(self):
        spots = [GROUND, E, C, A, D, B]
        self.assertEqual(pieces(Web(spots, RANGES + [(A, C, 3, WHY), (B, E, 3, WHY)])), ((E, B), (C, A), (D,)))

    def test_without_a_world(self):
        self.assertEqual(pieces(Web(SPOTS, RANGES + [(A, D, -99, WHY), (D, A, 3, WHY)])), ((A, D), (B,), (C,), (E,)))
        self.assertEqual(pieces(BROKEN), ((A,),))

    def test_kinds_of_values(self):
        found = pieces(Web(SPOTS, RANGES + [(A, D, 3, WHY)]))
        self.assertIs(type(found), tuple)
        self.assertEqual({type(piece) for piece in found}, {tuple})

    def test_a_charter(self):
        charter = Charter(days=2, bases=("length",), devices=[device("dial", cuts=(4,)), device("ring")], features=[feature("bore")])
        web = Web(charter.all_spots(), charter.own_links())
        dial = tuple(("dial", stretch, day) for stretch in (0, 1) for day in (0, 1))
        ring, bore = (("ring", 0, 0), ("ring", 0, 1)), (("bore", 0, 0), ("bore", 0, 1))
        self.assertEqual(pieces(web), (dial, ring, bore))
        self.assertEqual(pieces(web.more([(("bore", 0, 1), ("dial", 1, 0), 500, WHY)])), (dial + bore, ring))

    def test_random_webs(self):
        rng = random.Random(16)
        for _ in range(60):
            web = random_web(rng, 6, 4)
            group = {spot: {spot} for spot in web.spots[1:]}
            for a, b, _, _ in web.links:
                if GROUND not in (a, b):
                    both = group[a] | group[b]
                    for spot in both:
                        group[spot] = both
            told = dict.fromkeys(tuple(spot for spot in web.spots if spot in group[first]) for first in web.spots[1:])
            self.assertEqual(pieces(web), tuple(told))


class PutTogether(WebCase):
    WEB = Web(SPOTS, RANGES + [(A, D, 3, WHY), (C, E, 1, WHY)])

    def bad(self, web, worlds, place):
        self.raises(BadWorld, lambda: put_together(web, worlds), place=place)

    def test_the_values_of_each_piece(self):
        first, second, third = world(1, 2, 3, 4, 5), world(6, 7, 8, 9, 9), world(0, 1, 2, 3, 3)
        self.assertEqual(pieces(self.WEB), ((A, D), (B,), (C, E)))
        for row in ([first, second, third], (first, second, third)):
            found = put_together(self.WEB, row)
            self.assertEqual(found, world(1, 7, 2, 4, 3))
            self.is_world(self.WEB, found)
        self.assertEqual(put_together(self.WEB, [first] * 3), first)

    def test_worlds_with_other_spots_as_well(self):
        first = World([(GROUND, (0, 1)), (D, (4, 3)), (C, (9, 1)), (A, (1, 1))])
        second = World([(GROUND, (0, 1)), (B, (1, 2))])
        third = World([(GROUND, (0, 1)), (("z", 0, 0), (1, 1)), (E, (2, 1)), (C, (2, 1))])
        found = put_together(self.WEB, [first, second, third])
        self.assertEqual([found[spot] for spot in SPOTS], [(0, 1), (1, 1), (1, 2), (2, 1), (4, 3), (2, 1)])
        self.is_world(self.WEB, found)

    def test_too_few_and_too_many(self):
        whole = world(1, 2, 3, 4, 5)
        for many in (0, 1, 2):
            self.bad(self.WEB, [whole] * many, many)
        for many in (4, 5):
            self.bad(self.WEB, [whole] * many, 3)
        alone = Web([GROUND], [])
        self.assertEqual(put_together(alone, []), World([(GROUND, (0, 1))]))
        self.bad(alone, [whole], 0)

    def test_worlds_that_lack_a_spot_of_their_piece(self):
        whole = world(1, 2, 3, 4, 5)
        for place, piece in enumerate(pieces(self.WEB)):
            for lacking in piece:
                less = World([(spot, whole[spot]) for spot in SPOTS if spot != lacking])
                row = [whole] * 3
                row[place] = less
                self.bad(self.WEB, row, place)
                # The first one, also ahead of a row that is too short or too long.
                self.bad(self.WEB, row[:place + 1], place)
                self.bad(self.WEB, row + [whole], place)
        self.bad(self.WEB, [World([(GROUND, (0, 1))])] * 3, 0)

    def test_what_is_not_asked_for(self):
        # It does not matter whether the worlds keep the links, nor whether the web has worlds.
        self.assertEqual(put_together(self.WEB, [world(99, 0, 0, 0, 0)] * 3), world(99, 0, 0, 0, 0))
        self.assertEqual(put_together(BROKEN, [World([(GROUND, (0, 1)), (A, (4, 1))])])[A], (4, 1))

    def test_worlds_of_the_web_make_a_world(self):
        rng = random.Random(1)
        for _ in range(40):
            web = web_with_a_world(rng, 7, 4)
            worlds = [web.reaching(*rng.sample(web.spots, 2)) for _ in pieces(web)]
            found = put_together(web, worlds)
            self.is_world(web, found)
            for piece, told in zip(pieces(web), worlds):
                for spot in piece:
                    self.assertEqual(found[spot], told[spot])


class Following(WebCase):
    WEB = Web([GROUND, A, B], tied(A, 2, 9) + tied(B, -3, 4) + [(A, B, 2, WHY)])

    def test_at_just_below_and_just_above_the_bound(self):
        for a in self.WEB.spots:
            for b in self.WEB.spots:
                bound = self.WEB.bound(a, b)
                for more, told in ((-10 ** 40, False), (-1, False), (0, True), (1, True), (10 ** 40, True)):
                    self.assertIs(follows(self.WEB, (a, b, bound + more, WHY)), told)

    def test_a_spot_and_itself(self):
        for spot in self.WEB.spots:
            self.assertIs(follows(self.WEB, (spot, spot, 0, WHY)), True)
            self.assertIs(follows(self.WEB, (spot, spot, -1, WHY)), False)

    def test_it_is_kept_by_all_worlds(self):
        rng = random.Random(2)
        for _ in range(60):
            web = web_with_a_world(rng, 4, 5)
            a, b = rng.sample(web.spots, 2)
            link = (a, b, all_bounds(web)[a, b] + rng.randint(-2, 2), WHY)
            self.assertEqual(follows(web, link), web.reaching(a, b).keeps(link))

    def test_no_spot_then_clash(self):
        for web in (self.WEB, BROKEN):
            for spot in (C, ("a", False, 0), ("ground", 0, 1)) + STRANGE:
                self.raises(NoSpot, lambda: follows(web, (spot, D, 0, WHY)), spot=spot)
                self.raises(NoSpot, lambda: follows(web, (A, spot, 0, WHY)), spot=spot)
        self.is_ring(BROKEN, self.raises(Clash, lambda: follows(BROKEN, (A, GROUND, 10, WHY))).ring)


class Slim(WebCase):
    def is_slim(self, web):
        """No link follows from the others, all bounds are as they were, and the links are told in
        their order."""
        found = slim(web)
        self.assertEqual(found.spots, web.spots)
        bounds = all_bounds(web)
        self.assertEqual(all_bounds(found), bounds)
        self.assertEqual(card_of(found, web.spots), card_of(web, web.spots))
        links = list(web.links)
        at = 0
        for link in found.links:
            at = links.index(link, at) + 1
        for place, link in enumerate(found.links):
            # Without it the bound is greater, or there is no chain any more.
            others = all_bounds_of(web.spots, found.links[:place] + found.links[place + 1:])
            self.assertTrue(others.get(link[:2]) is None or others[link[:2]] > link[2])
        return found

    def one_by_one(self, web):
        """As it is told, word for word."""
        left = list(range(len(web.links)))
        for number, link in enumerate(web.links):
            rest = [other for other in left if other != number]
            bounds = all_bounds_of(web.spots, [web.links[other] for other in rest])
            if link[:2] in bounds and bounds[link[:2]] <= link[2]:
                left = rest
        return tuple(web.links[number] for number in left)

    def test_links_told_twice(self):
        for link in ((GROUND, A, 9, ("x", 1)), (A, GROUND, 0, ("x", 1))):
            ranges = tied(A, 0, 9)
            # The one told first is left out.
            self.assertEqual(slim(Web([GROUND, A], ranges + [link])).links, tuple(other for other in ranges if other[:2] != link[:2]) + (link,))
            self.assertEqual(slim(Web([GROUND, A], [link] + ranges)).links, tuple(ranges))
        self.assertEqual(slim(Web([GROUND, A], tied(A, 0, 9) + [(GROUND, A, 10, WHY), (A, GROUND, 1, WHY)])).links, tuple(tied(A, 0, 9)))
        self.assertEqual(slim(Web([GROUND, A], [(GROUND, A, 10, WHY)] + tied(A, 0, 9) + tied(A, 0, 9))).links, tuple(tied(A, 0, 9)))

    def test_chains_that_are_as_good_as_a_link(self):
        # From the ground by a to b: 5 and 4.
        for bound, stays in ((8, True), (9, False), (10, False)):
            web = Web([GROUND, A, B], [(GROUND, A, 5, WHY), (A, GROUND, 5, WHY), (GROUND, B, bound, WHY), (B, GROUND, 99, WHY), (A, B, 4, WHY)])
            self.assertEqual((GROUND, B, bound, WHY) in slim(web).links, stays)
            self.is_slim(web)

    def test_links_in_reversed_order(self):
        # a and b are the same, so each of two links follows from the other one.
        same = [(A, B, 0, WHY), (B, A, 0, WHY), (A, GROUND, 0, WHY), (B, GROUND, 0, WHY)]
        two = [(GROUND, A, 7, WHY), (GROUND, B, 7, WHY)]
        self.assertEqual(slim(Web([GROUND, A, B], two + same)).links, (two[1], same[0], same[1], same[3]))
        self.assertEqual(slim(Web([GROUND, A, B], two[::-1] + same)).links, (two[0], same[0], same[1], same[3]))
        self.assertEqual(slim(Web([GROUND, A, B], (two + same)[::-1])).links, (same[2], same[1], same[0], two[0]))

    def test_a_slim_web_stays(self):
        web = Web([GROUND, A, B], tied(A, 0, 9) + tied(B, 0, 9) + [(A, B, 2, WHY)])
        # b is at most 9, as a is; but not by way of it.
        self.assertEqual(slim(web), web)
        self.assertEqual(slim(slim(web)), slim(web))
        self.assertEqual(slim(Web([GROUND], [])), Web([GROUND], []))

    def test_random_webs(self):
        rng = random.Random(17)
        left_out = 0
        for _ in range(120):
            web = web_with_a_world(rng, 4, 7)
            rows = [web, Web(web.spots, web.links[::-1]), Web(web.spots, web.links + web.links[:3])]
            for one in rows:
                found = self.is_slim(one)
                self.assertEqual(found.links, self.one_by_one(one))
                left_out += len(one) - len(found)
        self.assertGreater(left_out, 200)

    def test_ties_at_zero(self):
        # Rings with a bound of 0, in which each link can stand for the others.
        rng = random.Random(18)
        for _ in range(60):
            values = {spot: rng.randint(0, 5) for spot in (A, B, C)}
            values[GROUND] = 0
            links = [link for spot in (A, B, C) for link in tied(spot, 0, 9)]
            for _ in range(8):
                a, b = rng.sample([GROUND, A, B, C], 2)
                links.append((a, b, values[b] - values[a], WHY))
            rng.shuffle(links)
            web = Web([GROUND, A, B, C], links)
            self.assertEqual(self.is_slim(web).links, self.one_by_one(web))

    def test_a_clash(self):
        self.is_ring(BROKEN, self.raises(Clash, lambda: slim(BROKEN)).ring)

    def test_the_card_of_a_card_as_a_web(self):
        rng = random.Random(19)
        card = card_of(web_with_a_world(rng, 8, 10), [("s", 0, number) for number in range(8)])
        web = card.as_web()
        found = self.is_slim(web)
        self.assertLess(len(found), len(web))


def all_bounds_of(spots, links):
    """The least bounds of chains of links between spots, for those that are joined at all."""
    least = {(spot, spot): 0 for spot in spots}
    for a, b, bound, _ in links:
        least[a, b] = min(bound, least.get((a, b), bound))
    for middle in spots:
        for a in spots:
            for b in spots:
                if (a, middle) in least and (middle, b) in least:
                    through = least[a, middle] + least[middle, b]
                    least[a, b] = min(through, least.get((a, b), through))
    return least


if __name__ == "__main__":
    unittest.main()
