"""[15] webs, chains, bounds, rings; [16] bounds, worlds that reach them, rings below 0."""

import random
import unittest

from ellwarden.errors import BadLink, BadSpot, Clash, Loose, NoSpot
from ellwarden.webs import Web
from ellwarden.worlds import GROUND, World, higher, lower
from samples import Case

A = ("a", 0, 0)
B = ("b", 0, 0)
C = ("c", 0, 0)
WHY = ("range", "a")


def tied(spot, least, greatest):
    """The two links by which a spot lies from least to greatest."""
    return [(GROUND, spot, greatest, ("range", spot[0])), (spot, GROUND, -least, ("range", spot[0]))]


def random_web(rng, many=5, further=8):
    """A web that often has a world, and at times has none."""
    spots = [GROUND] + [("s", 0, number) for number in range(many)]
    links = []
    for spot in spots[1:]:
        least = rng.randint(-20, 20)
        links += tied(spot, least, least + rng.randint(0, 30))
    for _ in range(rng.randint(0, further)):
        a, b = rng.sample(spots, 2)
        links.append((a, b, rng.randint(-8, 30), ("news", rng.randint(0, 9))))
    rng.shuffle(links)
    return Web(spots, links)


def all_bounds(web):
    """The least bounds of all walks, found the plain way; None if there is a ring below 0."""
    least = {(a, b): 0 if a == b else None for a in web.spots for b in web.spots}
    for a, b, bound, _ in web.links:
        if least[a, b] is None or bound < least[a, b]:
            least[a, b] = bound
    for middle in web.spots:
        for a in web.spots:
            for b in web.spots:
                if least[a, middle] is not None and least[middle, b] is not None:
                    through = least[a, middle] + least[middle, b]
                    if least[a, b] is None or through < least[a, b]:
                        least[a, b] = through
    if any(least[spot, spot] < 0 for spot in web.spots):
        return None
    return least


class WebCase(Case):
    def is_ring(self, web, ring):
        """A ring of links of the web with a bound below 0."""
        self.assertIsInstance(ring, tuple)
        self.assertGreaterEqual(len(ring), 1)
        for place, link in enumerate(ring):
            self.assertIn(link, web.links)
            self.assertEqual(ring[place - 1][1], link[0])
        starts = [link[0] for link in ring]
        self.assertEqual(len(starts), len(set(starts)))
        self.assertLess(sum(link[2] for link in ring), 0)

    def is_chain(self, web, chain, a, b):
        """A chain of the web from a to b; its bound."""
        self.assertIsInstance(chain, tuple)
        at = a
        seen = [a]
        for link in chain:
            self.assertIn(link, web.links)
            self.assertEqual(link[0], at)
            at = link[1]
            self.assertNotIn(at, seen)
            seen.append(at)
        self.assertEqual(at, b)
        return sum(link[2] for link in chain)

    def is_world(self, web, world):
        """A world of just the spots of the web, in its order, that keeps each link."""
        self.assertIsInstance(world, World)
        self.assertEqual(tuple(world), web.spots)
        self.assertEqual(len(world), len(web.spots))
        for link in web.links:
            self.assertTrue(world.keeps(link), link)
        self.assertEqual(world[GROUND], (0, 1))


class BadSpots(WebCase):
    def refused(self, spots, place, links=()):
        self.raises(BadSpot, lambda: Web(spots, links), place=place)

    def test_no_spots(self):
        self.refused([], 0)
        self.refused((), 0)

    def test_the_ground_at_place_0(self):
        self.refused([A], 0)
        self.refused([A, GROUND], 0)
        self.refused([("ground", 0, 1)], 0)
        self.refused([("ground", False, 0)], 0)
        self.refused([GROUND, GROUND], 1)

    def test_what_is_no_spot(self):
        for thing in (
            ["a", 0, 0], ("a", 0), ("a", 0, 0, 0), ("a", True, 0), ("a", 0, False), (1, 0, 0), ("a", "0", 0), "a", None, 3,
            ("a", 0, 0.0), ("a", [], 0), (["a"], 0, 0),
        ):
            self.refused([thing], 0)
            self.refused([GROUND, thing, A, A], 1)
            self.refused((GROUND, A, thing, thing), 2)

    def test_a_spot_that_comes_twice(self):
        self.refused([GROUND, A, B, A, B], 3)
        self.refused([GROUND, A, A, "none"], 2)

    def test_bad_spots_ahead_of_bad_links(self):
        self.refused([GROUND, A, A], 2, [None])
        self.refused([GROUND, A, None], 2, [None])


class BadLinks(WebCase):
    FAULTS = (
        None, (), "link", 5, [GROUND, A, 1, WHY], (GROUND, A, 1), (GROUND, A, 1, WHY, 1), (GROUND, GROUND, 1, WHY),
        (A, A, 0, WHY), (GROUND, C, 1, WHY), (C, GROUND, 1, WHY), (["ground", 0, 0], A, 1, WHY), (GROUND, ["a", 0, 0], 1, WHY),
        (("ground", False, 0), A, 1, WHY), (A, ("ground", 0, False), 1, WHY), ("ground", A, 1, WHY), (None, A, 1, WHY),
        (GROUND, None, 1, WHY), (GROUND, A, True, WHY), (GROUND, A, False, WHY), (GROUND, A, 1.0, WHY), (GROUND, A, "1", WHY),
        (GROUND, A, None, WHY), (GROUND, A, (1, 1), WHY), (GROUND, A, 1, ()), (GROUND, A, 1, []), (GROUND, A, 1, ["range", "a"]),
        (GROUND, A, 1, "range"), (GROUND, A, 1, None), (GROUND, A, 1, ("range", True)), (GROUND, A, 1, (False,)),
        (GROUND, A, 1, ("range", None)), (GROUND, A, 1, (("range",),)), (GROUND, A, 1, ("range", 1.0)), (GROUND, A, 1, (b"range",)),
        (GROUND, A, 1, 7), (GROUND, ("a", 0, []), 1, WHY), (GROUND, A, 1, ("range", [])),
    )

    def test_each_fault(self):
        for fault in self.FAULTS:
            for row in ([fault], (fault,), [fault] + tied(A, 0, 1), [fault, fault]):
                self.raises(BadLink, lambda row=row: Web([GROUND, A], row), place=0)
            row = tied(A, 0, 1) + [fault, None]
            self.raises(BadLink, lambda row=row: Web([GROUND, A], row), place=2)

    def test_bad_links_ahead_of_loose_spots(self):
        self.raises(BadLink, lambda: Web([GROUND, A, B], [None]), place=0)
        self.raises(BadLink, lambda: Web([GROUND, A, B], tied(A, 0, 1) + [(A, B, 0, ())]), place=2)

    def test_every_good_why(self):
        for why in (("x",), (0,), (-5,), ("news", 3), ("letter", "a", 1, "b"), ("",), (10 ** 60,)):
            web = Web([GROUND, A], [(GROUND, A, 1, why), (A, GROUND, 0, why)])
            self.assertEqual(web.links[0][3], why)

    def test_more_tells_the_place_in_the_row_passed(self):
        web = Web([GROUND, A], tied(A, 0, 5))
        good = (GROUND, A, 3, ("news", 0))
        for fault in self.FAULTS:
            self.raises(BadLink, lambda fault=fault: web.more([fault]), place=0)
            self.raises(BadLink, lambda fault=fault: web.more((good, good, fault, None)), place=2)
            self.assertEqual(len(web), 2)


class LooseSpots(WebCase):
    def test_no_chain_to_a_spot_or_from_it(self):
        self.raises(Loose, lambda: Web([GROUND, A], []), spot=A)
        self.raises(Loose, lambda: Web([GROUND, A], tied(A, 0, 1)[:1]), spot=A)
        self.raises(Loose, lambda: Web([GROUND, A], tied(A, 0, 1)[1:]), spot=A)

    def test_the_first_spot_is_told(self):
        links = tied(A, 0, 1) + [(GROUND, C, 1, WHY), (B, GROUND, 1, WHY)]
        self.raises(Loose, lambda: Web([GROUND, A, B, C], links), spot=B)
        self.raises(Loose, lambda: Web([GROUND, A, C, B], links), spot=C)
        self.raises(Loose, lambda: Web([GROUND, C, B, A], [(B, C, 0, WHY), (C, B, 0, WHY)]), spot=C)

    def test_spots_that_hold_each_other_only(self):
        links = tied(C, 0, 1) + [(A, B, 1, WHY), (B, A, 1, WHY)]
        self.raises(Loose, lambda: Web([GROUND, C, A, B], links), spot=A)
        self.raises(Loose, lambda: Web([GROUND, C, A, B], links + [(GROUND, B, 5, WHY)]), spot=A)
        self.assertEqual(len(Web([GROUND, C, A, B], links + tied(B, 0, 1))), 6)

    def test_chains_through_other_spots(self):
        links = [(GROUND, A, 5, WHY), (A, B, 2, WHY), (B, C, -1, WHY), (C, GROUND, 4, WHY)]
        web = Web([GROUND, A, B, C], links)
        self.assertEqual(web.bound(GROUND, C), 6)
        self.assertEqual(web.bound(C, B), 11)
        self.raises(Loose, lambda: Web([GROUND, A, B, C], links[:3]), spot=A)
        self.raises(Loose, lambda: Web([GROUND, A, B, C], links[1:]), spot=A)
        self.raises(Loose, lambda: Web([GROUND, C, B, A], links[1:]), spot=C)


class Reading(WebCase):
    def setUp(self):
        self.links = tied(A, 0, 10) + tied(B, -5, 5) + [(A, B, -2, ("news", 1)), (A, B, -2, ("news", 1)), (A, B, 4, WHY)]
        self.web = Web([GROUND, A, B], self.links)

    def test_attributes_len_and_iteration(self):
        self.assertEqual(self.web.spots, (GROUND, A, B))
        self.assertEqual(self.web.links, tuple(self.links))
        self.assertIs(type(self.web.spots), tuple)
        self.assertIs(type(self.web.links), tuple)
        self.assertEqual(len(self.web), 7)
        self.assertEqual(list(self.web), self.links)

    def test_in(self):
        for spot in (GROUND, A, B):
            self.assertIs(spot in self.web, True)
        for thing in (C, "a", None, ("a", 0, False), ["a", 0, 0], ("a", [], 0), ("a", 0), self.links[0], 0):
            self.assertIs(thing in self.web, False, repr(thing))

    def test_equal_by_spots_and_links_in_their_order(self):
        self.assertEqual(self.web, Web((GROUND, A, B), tuple(self.links)))
        self.assertNotEqual(self.web, Web([GROUND, B, A], self.links))
        self.assertNotEqual(self.web, Web([GROUND, A, B], self.links[::-1]))
        self.assertNotEqual(self.web, Web([GROUND, A, B], self.links[:-1]))
        changed = self.links[:-1] + [(A, B, 4, ("range", "b"))]
        self.assertNotEqual(self.web, Web([GROUND, A, B], changed))
        for thing in (None, 7, (self.web.spots, self.web.links), tuple(self.links)):
            self.assertIs(self.web == thing, False)

    def test_rows_that_were_passed_are_copied(self):
        spots = [GROUND, A]
        links = tied(A, 0, 5)
        web = Web(spots, links)
        more = [(GROUND, A, 3, WHY)]
        further = web.more(more)
        spots.append(B)
        links[0] = None
        more[0] = None
        self.assertEqual(web.spots, (GROUND, A))
        self.assertEqual(web.links, tuple(tied(A, 0, 5)))
        self.assertEqual(further.links, tuple(tied(A, 0, 5)) + ((GROUND, A, 3, WHY),))
        self.assertEqual(further.bound(GROUND, A), 3)

    def test_links_from(self):
        self.assertEqual(list(self.web.links_from(GROUND)), [self.links[0], self.links[2]])
        self.assertEqual(list(self.web.links_from(A)), [self.links[1], *self.links[4:]])
        self.assertEqual(list(Web([GROUND], []).links_from(GROUND)), [])

    def test_links_from_tells_no_spot_when_it_is_iterated(self):
        for thing in (C, ("a", 0, False), "a", None):
            rows = self.web.links_from(thing)
            self.raises(NoSpot, lambda rows=rows: next(rows), spot=thing)
            self.raises(NoSpot, lambda thing=thing: list(self.web.links_from(thing)), spot=thing)

    def test_allows(self):
        def allowed(*values):
            return self.web.allows(World([(GROUND, (0, 1)), *values]))

        self.assertIs(allowed((A, (5, 1)), (B, (3, 1))), True)
        self.assertIs(allowed((B, (3, 1)), (A, (5, 1))), True)
        self.assertIs(allowed((B, (3, 1)), (C, (90, 1)), (A, (5, 1))), True)
        self.assertIs(allowed((A, (5, 1)), (B, (31, 10))), False)
        self.assertIs(allowed((A, (11, 1)), (B, (3, 1))), False)
        self.assertIs(allowed((A, (5, 1)), (B, (-51, 10))), False)
        self.assertIs(allowed((A, (5, 1))), False)
        self.assertIs(allowed(), False)
        self.assertIs(Web([GROUND], []).allows(World([(GROUND, (0, 1))])), True)


class Bounds(WebCase):
    def test_a_ground_alone(self):
        web = Web([GROUND], [])
        self.assertEqual(web.spots, (GROUND,))
        self.assertEqual(len(web), 0)
        self.assertEqual(web.bound(GROUND, GROUND), 0)
        self.assertEqual(web.chain(GROUND, GROUND), ())
        self.assertIsNone(web.bad_ring())
        ground = World([(GROUND, (0, 1))])
        for world in (web.highest(), web.lowest(), web.reaching(GROUND, GROUND)):
            self.assertEqual(world, ground)

    def test_bounds_told(self):
        web = Web([GROUND, A, B], tied(A, 0, 10) + tied(B, -5, 5) + [(A, B, -2, WHY), (A, B, 4, WHY)])
        for a, b, bound in (
            (GROUND, A, 10), (A, GROUND, 0), (GROUND, B, 5), (B, GROUND, 5), (A, B, -2), (B, A, 15), (A, A, 0),
            (GROUND, GROUND, 0),
        ):
            self.assertEqual(web.bound(a, b), bound)

    def test_several_links_between_two_spots(self):
        for bounds in ((5, 3, 4), (3, 5, 4), (4, 3, 3), (3, 3, 3)):
            links = [(GROUND, A, bound, ("news", bound)) for bound in bounds] + [(A, GROUND, 0, WHY)]
            web = Web([GROUND, A], links)
            self.assertEqual(web.bound(GROUND, A), 3)
            self.assertEqual(web.chain(GROUND, A), ((GROUND, A, 3, ("news", 3)),))
            self.assertEqual(len(web), 4)

    def test_bounds_below_0_and_great_ones(self):
        most = 10 ** 399
        web = Web([GROUND, A, B], tied(A, -most, most) + [(A, B, -most, WHY), (B, A, most + 3, WHY), (B, GROUND, 7, WHY)])
        bounds = all_bounds(web)
        self.assertEqual(bounds[GROUND, B], 0)
        for a in web.spots:
            for b in web.spots:
                self.assertEqual(web.bound(a, b), bounds[a, b])
                self.assertEqual(web.reaching(a, b).gap(a, b), (bounds[a, b], 1))
        self.assertEqual(web.highest()[A], (most, 1))
        self.is_world(web, web.highest())
        self.is_world(web, web.lowest())

    def test_random_webs(self):
        rng = random.Random(1)
        seen = {"world": 0, "clash": 0}
        for _ in range(300):
            web = random_web(rng)
            bounds = all_bounds(web)
            if bounds is None:
                seen["clash"] += 1
                self.is_ring(web, web.bad_ring())
                continue
            seen["world"] += 1
            self.assertIsNone(web.bad_ring())
            self.check_world_web(web, bounds)
        self.assertGreater(min(seen.values()), 50)

    def check_world_web(self, web, bounds):
        for a in web.spots:
            for b in web.spots:
                bound = web.bound(a, b)
                self.assertIs(type(bound), int)
                self.assertEqual(bound, bounds[a, b])
                chain = web.chain(a, b)
                self.assertEqual(self.is_chain(web, chain, a, b), bound)
                if a == b:
                    self.assertEqual(chain, ())
                world = web.reaching(a, b)
                self.is_world(web, world)
                self.assertEqual(world.gap(a, b), (bound, 1))
        self.is_world(web, web.highest())
        self.is_world(web, web.lowest())
        for spot in web.spots:
            self.assertEqual(web.highest()[spot], (bounds[GROUND, spot], 1))
            self.assertEqual(web.lowest()[spot], (-bounds[spot, GROUND], 1))

    def test_higher_and_lower_of_two_worlds_are_worlds(self):
        rng = random.Random(2)
        for _ in range(40):
            web = random_web(rng)
            if web.bad_ring() is None:
                worlds = [web.reaching(*rng.sample(web.spots, 2)) for _ in range(4)]
                for first in worlds:
                    for second in worlds:
                        self.is_world(web, higher(first, second))
                        self.is_world(web, lower(first, second))

    def test_a_long_web(self):
        spots = [GROUND] + [("s", 0, number) for number in range(239)]
        links = []
        for before, behind in zip(spots, spots[1:]):
            links.append((before, behind, 2, ("drift", "s")))
            links.append((behind, before, -1, ("drift", "s")))
        web = Web(spots, links)
        self.assertEqual(web.bound(GROUND, spots[-1]), 2 * 239)
        self.assertEqual(web.bound(spots[-1], GROUND), -239)
        self.assertEqual(len(web.chain(spots[-1], GROUND)), 239)
        self.is_world(web, web.lowest())
        clash = web.more([(GROUND, spots[-1], 238, WHY)])
        self.assertEqual(len(clash.bad_ring()), 240)
        self.is_ring(clash, clash.bad_ring())


class Clashes(WebCase):
    def setUp(self):
        self.links = tied(A, 0, 10) + tied(B, -5, 5) + [(A, B, -9, ("news", 1)), (B, A, 8, ("news", 1))]
        self.web = Web([GROUND, A, B], self.links)

    def test_bad_ring(self):
        self.is_ring(self.web, self.web.bad_ring())
        self.assertIsNone(Web([GROUND, A, B], self.links[:5]).bad_ring())

    def test_a_ring_of_bound_0_is_no_bad_one(self):
        web = Web([GROUND, A, B], self.links[:5] + [(B, A, 9, WHY)])
        self.assertIsNone(web.bad_ring())
        self.assertEqual(web.bound(A, B), -9)
        self.assertEqual(web.bound(B, A), 9)
        pinned = Web([GROUND, A], tied(A, 5, 5))
        self.assertIsNone(pinned.bad_ring())
        self.assertEqual(pinned.highest(), pinned.lowest())

    def test_rings_with_the_ground(self):
        web = Web([GROUND, A], tied(A, 6, 5))
        self.is_ring(web, web.bad_ring())
        self.assertEqual(sum(link[2] for link in web.bad_ring()), -1)

    def test_a_bad_ring_far_from_other_spots(self):
        rng = random.Random(3)
        for _ in range(60):
            web = random_web(rng, many=7, further=4)
            spots = rng.sample(web.spots, 4)
            ring = [(a, b, 1, ("news", 9)) for a, b in zip(spots, spots[1:])] + [(spots[-1], spots[0], -4, ("news", 9))]
            bad = web.more(ring)
            self.is_ring(bad, bad.bad_ring())

    def test_clash_is_told_with_a_ring(self):
        web = self.web
        for call in (
            lambda: web.bound(A, B), lambda: web.bound(A, A), lambda: web.bound(GROUND, GROUND), lambda: web.chain(A, B),
            lambda: web.chain(B, B), lambda: web.reaching(A, B), lambda: web.reaching(GROUND, GROUND), web.highest, web.lowest,
        ):
            error = self.raises(Clash, call)
            self.is_ring(web, error.ring)
            error = self.raises(Clash, call)
            self.is_ring(web, error.ring)

    def test_no_spot_ahead_of_clash(self):
        good = Web([GROUND, A, B], self.links[:5])
        for web in (self.web, good):
            for call in (web.bound, web.chain, web.reaching):
                for a, b, lacking in (
                    (C, A, C), (A, C, C), (C, ("d", 0, 0), C), (("d", 0, 0), C, ("d", 0, 0)), (A, ("b", 0, False), ("b", 0, False)),
                    (("a", False, 0), B, ("a", False, 0)), (C, C, C),
                ):
                    self.raises(NoSpot, lambda a=a, b=b, call=call: call(a, b), spot=lacking)

    def test_what_raises_no_clash(self):
        web = self.web
        self.assertEqual(len(web.more([(GROUND, A, 1, WHY)])), 7)
        self.assertEqual(len(web + web), 12)
        self.assertEqual(list(web.links_from(A)), [self.links[1], self.links[4]])
        self.assertIs(web.allows(World([(GROUND, (0, 1)), (A, (1, 1)), (B, (1, 1))])), False)
        self.assertEqual(web, Web([GROUND, A, B], self.links))
        self.assertIn(A, web)
        self.assertEqual(list(web), self.links)


class Joining(WebCase):
    def test_more(self):
        web = Web([GROUND, A, B], tied(A, 0, 10) + tied(B, -5, 5))
        before = (web.spots, web.links, web.bound(A, B))
        for row in ([(A, B, -4, ("mark", 0)), (A, B, -4, ("mark", 0))], ((A, B, -4, ("mark", 0)),)):
            further = web.more(row)
            self.assertIsInstance(further, Web)
            self.assertEqual(further.spots, web.spots)
            self.assertEqual(further.links, web.links + tuple(row))
            self.assertEqual(further.bound(A, B), -4)
            self.assertEqual(list(further.links_from(A))[-1], (A, B, -4, ("mark", 0)))
        self.assertEqual((web.spots, web.links, web.bound(A, B)), before)
        self.assertEqual(web.more([]), web)
        self.assertEqual(web.more(()), web)

    def same(self, web):
        """It says what a web says that is made of its spots and links anew."""
        plain = Web(web.spots, web.links)
        self.assertEqual(web, plain)
        self.assertEqual(web.bad_ring() is None, plain.bad_ring() is None)
        if plain.bad_ring() is not None:
            self.is_ring(web, web.bad_ring())
            return
        bounds = all_bounds(plain)
        for a, b in bounds:
            self.assertEqual(web.bound(a, b), bounds[a, b])
            self.is_world(web, web.reaching(a, b))
            self.assertEqual(self.is_chain(web, web.chain(a, b), a, b), bounds[a, b])
        self.assertEqual((web.highest(), web.lowest()), (plain.highest(), plain.lowest()))

    def test_more_and_fewer_links_of_webs_that_were_asked_before(self):
        rng = random.Random(15)
        for _ in range(250):
            web = random_web(rng, rng.randint(1, 5), 6)
            for number in range(rng.randint(1, 3)):
                if rng.random() < 0.6:
                    web.bad_ring()
                links = []
                for _ in range(rng.randint(0, 3)):
                    a, b = rng.sample(web.spots, 2)
                    links.append((a, b, rng.randint(-9, 20), ("mark", number)))
                web = web.more(links)
            self.same(web)
            for whys in ([("mark", 0)], [("mark", 1), ("mark", 2)], []):
                less = web.without(whys)
                self.assertEqual(less.links, tuple(link for link in web.links if link[3] not in whys))
                self.same(less)
                self.same(less.more([(web.spots[1], GROUND, rng.randint(-20, 20), ("mark", 3))]))

    def test_sum(self):
        one = Web([GROUND, A, B], tied(A, 0, 10) + tied(B, 0, 9))
        two = Web([GROUND, C, B, ("d", 0, 0)], tied(C, 1, 2) + tied(B, 3, 30) + tied(("d", 0, 0), 0, 0))
        both = one + two
        self.assertIsInstance(both, Web)
        self.assertEqual(both.spots, (GROUND, A, B, C, ("d", 0, 0)))
        self.assertEqual(both.links, one.links + two.links)
        self.assertEqual(both.bound(GROUND, B), 9)
        self.assertEqual(both.bound(B, GROUND), -3)
        self.assertEqual((two + one).spots, (GROUND, C, B, ("d", 0, 0), A))
        self.assertEqual((two + one).links, two.links + one.links)
        self.assertEqual(len(one), 4)
        self.assertEqual(one.spots, (GROUND, A, B))
        self.assertEqual(one.bound(B, GROUND), 0)
        self.assertEqual(two.spots, (GROUND, C, B, ("d", 0, 0)))
        self.assertEqual(len(two), 6)

    def test_sum_with_itself_and_the_ground(self):
        one = Web([GROUND, A], tied(A, 0, 10))
        ground = Web([GROUND], [])
        self.assertEqual(one + ground, one)
        self.assertEqual(ground + one, one)
        self.assertEqual((one + one).links, one.links + one.links)
        self.assertEqual(ground + ground, ground)

    def test_a_sum_that_clashes(self):
        both = Web([GROUND, A], tied(A, 0, 3)) + Web([GROUND, A], tied(A, 4, 5))
        self.is_ring(both, both.bad_ring())


if __name__ == "__main__":
    unittest.main()
