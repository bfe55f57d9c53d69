"""[46] probes, questions, pairs and papers, and the fewest probes that settle some questions."""

import itertools
import random
import time
import unittest
from fractions import Fraction

from ellwarden.charters import Charter
from ellwarden.claims import is_bad, is_good
from ellwarden.ends import greatest, least
from ellwarden.errors import Clash, NoSpot, TooMany
from ellwarden.forms import Form
from ellwarden.probes import fewest, judge_paper, pair, paper, settles
from ellwarden.quantities import verdict
from ellwarden.ratios import minus
from ellwarden.webs import Web
from ellwarden.worlds import GROUND
from brute import fraction, told
from samples import STRANGE, device, feature, spot_form, swapped
from test_ends import BROKEN, some_form, web_with_a_world
from test_webs import WebCase, tied

A, B, C, Z = ("a", 0, 0), ("b", 0, 0), ("c", 0, 0), ("z", 0, 0)
# a from 0 to 10, b from 0 to 10 and at most 3 away from a.
WEB = Web([GROUND, A, B], tied(A, 0, 10) + tied(B, 0, 10) + [(A, B, 3, ("news", 0)), (B, A, 3, ("news", 1))])


def question(form, good, bad):
    return (form, *[number if isinstance(number, tuple) else (number, 1) for number in (good, bad)])


LOW = question(spot_form(A), 4, 6)
HIGH = question(spot_form(A), 6, 4)
PROBE = (GROUND, A, 1)


def open_question(rng, web, many):
    """A question on a form of so many spots whose verdict is open, mostly."""
    form = some_form(rng, web.spots[1:], many)
    low, high = fraction(least(web, form).value), fraction(greatest(web, form).value)
    G, N = [low + (high - low) * Fraction(part, 12) for part in rng.sample(range(-1, 14), 2)]
    return (form.plain(), told(G), told(N)) if G != N else question(form.plain(), 0, 1)


def some_probes(rng, web, form, many):
    """So many probes, most of them of spots of the form."""
    spots = [spot for spot, _ in form[0]] + [GROUND, rng.choice(web.spots[1:])]
    found = []
    while len(found) < many:
        a, b = rng.choice(spots), rng.choice(spots)
        if a != b:
            found.append((a, b, rng.choice((0, 0, 1, 1, 2, 5))))
    return found


class ProbeCase(WebCase):
    def is_pair(self, web, asked, probes, found):
        """A good and a bad world that agree on all probes."""
        self.assertIs(type(found), tuple)
        good, bad = found
        form, G, N = asked
        for world in found:
            self.is_world(web, world)
        values = [Form(*form)(world) for world in found]
        self.assertTrue(is_good(values[0], G, N))
        self.assertTrue(is_bad(values[1], G, N))
        for a, b, slack in probes:
            self.assertLessEqual(abs(fraction(minus(good.gap(a, b), bad.gap(a, b)))), 2 * slack)

    def is_paper(self, web, asked, probes, found):
        """A paper, word for word."""
        self.assertIs(type(found), tuple)
        (terms, rest), G, N = asked
        sign = 1 if fraction(G) < fraction(N) else -1
        sums = {}
        left = right = Fraction(0)

        def put(world, spot, number):
            if spot != GROUND:
                sums[world, spot] = sums.get((world, spot), 0) + number

        for multiplier, item in found:
            many = fraction(multiplier)
            self.assertGreater(many, 0)
            if item[0] in ("good", "bad"):
                word, link = item
                self.assertIn(link, web.links)
                a, b, bound, _ = link
                put(word, b, many)
                put(word, a, -many)
                right += many * bound
            elif item[0] == "probe":
                _, number, way = item
                self.assertIn(number, range(len(probes)))
                self.assertIn(way, (1, -1))
                a, b, slack = probes[number]
                for word, side in (("bad", way), ("good", -way)):
                    put(word, b, many * side)
                    put(word, a, -many * side)
                right += many * 2 * slack
            else:
                self.assertEqual(item[0], "limit")
                side, limit = {"good": (sign, G), "bad": (-sign, N)}[item[1]]
                for spot, factor in terms:
                    put(item[1], spot, many * side * fraction(factor))
                left += many * side * fraction(rest)
                right += many * side * fraction(limit)
        self.assertEqual([number for number in sums.values() if number], [])
        self.assertGreater(left, right)
        for row in (found, list(found), found[::-1]):
            self.assertIs(judge_paper(web, asked, probes, row), True)

    def decided(self, web, asked, probes):
        """Whether the probes settle the question, with a pair or a paper that shows it."""
        settled = settles(web, [asked], probes)
        worlds, row = pair(web, asked, probes), paper(web, asked, probes)
        if settled:
            self.assertIs(settled, True)
            self.assertIsNone(worlds)
            self.is_paper(web, asked, probes, row)
        else:
            self.assertIs(settled, False)
            self.assertIsNone(row)
            self.is_pair(web, asked, probes, worlds)
        return settled


class Settling(ProbeCase):
    def test_both_orders_of_the_limits(self):
        for asked in (LOW, HIGH):
            # The limits are 2 apart: results of a slack below 1 tell which one it is.
            self.assertFalse(self.decided(WEB, asked, [(GROUND, A, 1)]))
            self.assertTrue(self.decided(WEB, asked, [(GROUND, A, 0)]))
            self.assertTrue(self.decided(WEB, asked, [(A, GROUND, 0)]))
            self.assertFalse(self.decided(WEB, asked, []))
            self.assertFalse(self.decided(WEB, asked, [(GROUND, A, 5)]))

    def test_probes_that_just_settle_and_just_do_not(self):
        for bad, slack, told_so in ((6, 1, False), (7, 1, True), (8, 2, False), (9, 2, True), ((61, 10), 1, True), ((6 * 10 ** 40 + 1, 10 ** 40), 1, True)):
            for form in (spot_form(A), spot_form((A, (1, 1)), rest=(0, 1))):
                self.assertEqual(self.decided(WEB, question(form, 4, bad), [(GROUND, A, slack)]), told_so)
                self.assertEqual(self.decided(WEB, question(form, 4, bad), [(A, GROUND, slack)]), told_so)

    def test_by_way_of_another_spot(self):
        # b is at most 3 away from a, so a result of b leaves 6 more.
        for bad, told_so in ((10, False), ((101, 10), True)):
            web = Web([GROUND, A, B], tied(A, 0, 20) + tied(B, 0, 20) + [(A, B, 3, ("news", 0)), (B, A, 3, ("news", 1))])
            self.assertEqual(self.decided(web, question(spot_form(A), 2, bad), [(GROUND, B, 1)]), told_so)

    def test_slack_0(self):
        self.assertTrue(self.decided(WEB, question(spot_form(A), 4, (400001, 100000)), [(GROUND, A, 0)]))
        self.assertFalse(self.decided(WEB, question(spot_form(A), 4, (400001, 100000)), [(GROUND, B, 0)]))
        self.assertTrue(self.decided(WEB, question(spot_form(A), 1, (71, 10)), [(GROUND, B, 0)]))
        self.assertFalse(self.decided(WEB, question(spot_form(A), 1, 7), [(GROUND, B, 0)]))

    def test_gaps_between_two_spots(self):
        gap = spot_form(B, (A, (-1, 1)))
        for probe, told_so in (((A, B, 1), True), ((B, A, 1), True), ((A, B, 2), False), ((GROUND, A, 0), False)):
            self.assertEqual(self.decided(WEB, question(gap, -2, 2), [probe]), told_so)
        # Both values tell their gap.
        self.assertTrue(self.decided(WEB, question(gap, -2, 3), [(GROUND, A, 1), (GROUND, B, 1)]))
        self.assertFalse(self.decided(WEB, question(gap, -2, 2), [(GROUND, A, 1), (GROUND, B, 1)]))

    def test_forms_without_spots(self):
        for rest, good, bad in ((5, 5, 6), (5, 6, 7), (5, 4, 5), (5, 3, 4), (5, 4, 6), (-5, 4, 6), (5, 6, 4), (0, -1, 1)):
            for number in ((rest, 1), told(Fraction(rest, 3))):
                for probes in ([], [PROBE]):
                    self.assertTrue(self.decided(WEB, question(((), number), good, bad), probes))

    def test_verdicts_that_are_not_open(self):
        for good, bad in ((11, 12), (10, 11), (-2, -1), (-1, 0), (-3, 11), (12, 11), (0, -1), (11, -1), (20, 15)):
            self.assertTrue(self.decided(WEB, question(spot_form(A), good, bad), []))
            self.assertNotEqual(verdict(WEB, ("sum", spot_form(A), (1,)), (good, 1), (bad, 1)).word, "open")
        self.assertFalse(self.decided(WEB, question(spot_form(A), 0, 10), []))

    def test_more_spots_and_fractions(self):
        form = spot_form((A, (2, 3)), (B, (-1, 4)), rest=(1, 6))
        for good, bad, slack, told_so in (((1, 1), (3, 1), 1, True), ((1, 1), (2, 1), 1, False), ((1, 1), (17, 6), 1, False), ((1, 1), (18, 6), 1, True), ((3, 1), (1, 1), 1, True)):
            # Results of both leave 2/3 * 2 + 1/4 * 2 = 11/6.
            self.assertEqual(self.decided(WEB, question(form, good, bad), [(GROUND, A, slack), (GROUND, B, slack)]), told_so)
        self.assertFalse(self.decided(WEB, question(form, (1, 1), (17, 6)), [(GROUND, A, 1), (GROUND, B, 1)]))
        self.assertTrue(self.decided(WEB, question(form, (1, 1), (171, 60)), [(GROUND, A, 1), (GROUND, B, 1)]))

    def test_several_questions(self):
        other = question(spot_form(B), 2, 8)
        probes = [(GROUND, A, 0), (GROUND, B, 2)]
        for chosen in itertools.product((0, 1), repeat=2):
            row = [probe for probe, use in zip(probes, chosen) if use]
            for asked in ([LOW, other], (other, LOW), [LOW], [other], [LOW, LOW, other, other]):
                self.assertEqual(settles(WEB, asked, row), all(self.decided(WEB, one, row) for one in asked))

    def test_no_questions(self):
        for probes in ([], [PROBE], (PROBE,) * 6):
            self.assertIs(settles(WEB, [], probes), True)
            self.assertEqual(fewest(WEB, [], probes), ())
            self.assertEqual(fewest(WEB, (), probes), ())

    def test_random_webs(self):
        rng = random.Random(46)
        seen = {True: 0, False: 0}
        for _ in range(250):
            web = web_with_a_world(rng, 4, 5)
            asked = open_question(rng, web, rng.randint(0, 4))
            seen[self.decided(web, asked, some_probes(rng, web, asked[0], rng.randint(0, 6)))] += 1
        self.assertGreater(min(seen.values()), 40)

    def test_open_verdicts_without_probes(self):
        rng = random.Random(47)
        for _ in range(60):
            web = web_with_a_world(rng, 4, 4)
            form = some_form(rng, web.spots[1:], 2).plain()
            G, N = rng.sample(range(-60, 60), 2)
            word = verdict(web, ("sum", form, (0,)), (G, 1), (N, 1)).word
            self.assertEqual(self.decided(web, question(form, G, N), []), word != "open")

    def test_what_settles_is_never_open_behind_any_result(self):
        rng = random.Random(48)
        seen = {True: 0, False: 0}
        for _ in range(60):
            web = web_with_a_world(rng, 3, 4)
            asked = open_question(rng, web, 2)
            form = asked[0]
            probes = some_probes(rng, web, form, 3)
            settled = self.decided(web, asked, probes)
            seen[settled] += 1
            if settled:
                worlds = [web.reaching(*rng.sample(web.spots, 2)) for _ in range(3)]
            else:
                worlds = pair(web, asked, probes)
            for world in worlds:
                # Whole results that this world lets the probes tell.
                links = []
                for a, b, slack in probes:
                    gap = fraction(world.gap(a, b))
                    if gap.denominator == 1:
                        links += [(a, b, int(gap) + slack, ("x",)), (b, a, slack - int(gap), ("x",))]
                if settled and len(links) == 6:
                    self.assertNotEqual(verdict(web.more(links), ("sum", form, (0,)), *asked[1:]).word, "open")
        self.assertGreater(min(seen.values()), 8)


class Judging(ProbeCase):
    PROBES = [(GROUND, B, 1), (GROUND, A, 1)]
    ASKED = question(spot_form(A, rest=(1, 2)), 2, 8)

    def setUp(self):
        self.paper = paper(WEB, self.ASKED, self.PROBES)
        self.assertIsNotNone(self.paper)

    def refused(self, *rows):
        for row in rows:
            self.assertIs(judge_paper(WEB, self.ASKED, self.PROBES, row), False, row)

    def test_a_paper_by_hand(self):
        # In the good world a is at most 3/2, in the bad one at least 15/2, and it is at most 2 more there.
        row = (((1, 1), ("limit", "good")), ((1, 1), ("limit", "bad")), ((1, 1), ("probe", 1, 1)))
        self.is_paper(WEB, self.ASKED, self.PROBES, row)
        # The other way by b, which is at most 3 away in both worlds: that is 8 more, and there are but 6.
        other = row[:2] + (((1, 1), ("probe", 0, 1)), ((1, 1), ("good", WEB.links[4])), ((1, 1), ("bad", WEB.links[5])))
        self.refused(other, row[:2], row[1:], row[:1] + row[2:])
        # Multiples, items in parts, and both ways together.
        self.is_paper(WEB, self.ASKED, self.PROBES, tuple((told(fraction(many) * Fraction(7, 3)), item) for many, item in row))
        self.is_paper(WEB, self.ASKED, self.PROBES, row[:2] + (((1, 3), row[2][1]), ((2, 3), row[2][1])))
        self.is_paper(WEB, self.ASKED, self.PROBES, row + (((1, 7), ("good", WEB.links[4])), ((1, 7), ("good", WEB.links[5]))))

    def test_what_is_no_row_of_pairs(self):
        self.refused(None, 5, "paper", {}, (), [], True, self.paper[0], *STRANGE)
        for place, (many, item) in enumerate(self.paper):
            for thing in STRANGE + ([many, item], (many,), (many, item, 1), item, many, (item, many)):
                self.refused(swapped(self.paper, place, thing), list(swapped(self.paper, place, thing)))

    def test_multipliers(self):
        for place, (many, item) in enumerate(self.paper):
            for number in (0, 1, (0, 1), (-many[0], many[1]), (many[0] * 2, many[1] * 2), [*many], (True, 1), (1, True), (1, 0), (1.0, 1), "1", None, (many[0], -many[1])):
                self.refused(swapped(self.paper, place, (number, item)))

    def test_multipliers_that_are_not_above_0(self):
        # Their sums are those of a paper; still they are none.
        for item in (("good", WEB.links[4]), ("bad", WEB.links[0]), ("probe", 0, 1), ("limit", "good")):
            self.refused(self.paper + (((0, 1), item),), self.paper + (((-1, 1), item), ((1, 1), item)), self.paper + (((2, 1), item), ((-2, 1), item)))
        for place, (many, item) in enumerate(self.paper):
            double = (told(fraction(many) * 2), item)
            self.refused(swapped(self.paper, place, double) + ((told(-fraction(many)), item),))
        # A probe told twice as much, half as often.
        for place, (many, item) in enumerate(self.paper):
            if item[0] == "probe":
                self.refused(swapped(self.paper, place, (told(fraction(many) / 2), ("probe", item[1], 2 * item[2]))))

    def test_items(self):
        long = Judging.long_paper(self)
        for web, asked, probes, row in ((WEB, self.ASKED, self.PROBES, self.paper), long):
            kinds = set()
            for place, (many, item) in enumerate(row):
                kinds.add(item[0])
                faults = [list(item), item[:-1], item + (1,), item[:1], (), None, "good", 5, (None,) + item[1:], ("link",) + item[1:], (["good"],) + item[1:]]
                if item[0] in ("good", "bad"):
                    a, b, bound, why = item[1]
                    faults += [(item[0], link) for link in ((a, b, bound + 1, why), (a, b, bound - 1, why), (b, a, bound, why), (a, b, bound, why + (1,)), (a, b, bound), [a, b, bound, why], (a, b, True, why), None, (a, Z, bound, why))]
                    faults += [("limit",) + item[1:], ("probe",) + item[1:]]
                if item[0] == "probe":
                    faults += [("probe", number, item[2]) for number in (-1, len(probes), True if item[1] == 1 else False, "0", None, 1.0 * item[1], [item[1]])]
                    faults += [("probe", item[1], way) for way in (-item[2], 0, 2, True, None, "1", 1.0 * item[2])]
                if item[0] == "limit":
                    faults += [("limit", word) for word in ("Good", "", None, True, 1, "bad" if item[1] == "good" else "good", ["good"])]
                for fault in faults:
                    self.assertIs(judge_paper(web, asked, probes, swapped(row, place, (many, fault))), False, fault)
                # Left out, told twice, or another time as much.
                self.assertIs(judge_paper(web, asked, probes, row[:place] + row[place + 1:]), False)
                self.assertIs(judge_paper(web, asked, probes, row + (row[place],)), False)
                self.assertIs(judge_paper(web, asked, probes, swapped(row, place, (told(fraction(many) * 2), item))), False)
                # In two parts it is the same.
                parts = ((told(fraction(many) / 3), item), (told(fraction(many) * 2 / 3), item))
                self.assertIs(judge_paper(web, asked, probes, row[:place] + parts + row[place + 1:]), True)
        self.assertEqual(kinds, {"good", "bad", "probe", "limit"})

    def long_paper(self):
        """A paper with items of each kind, links of both worlds and a probe with its second sign."""
        web = Web([GROUND, A, B, C], tied(A, 0, 20) + tied(B, 0, 20) + tied(C, 0, 20) + [(A, B, 1, ("n", 0)), (B, A, 1, ("n", 1)), (C, B, 1, ("n", 2)), (B, C, 1, ("n", 3))])
        asked = question(spot_form(A, C), 38, 2)
        probes = [(GROUND, C, 0), (B, GROUND, 1)]
        row = paper(web, asked, probes)
        self.is_paper(web, asked, probes, row)
        return web, asked, probes, row

    def test_other_links_of_the_web(self):
        # Links that are told twice are both there.
        web = WEB.more([(A, B, 3, ("news", 2)), (GROUND, A, 10, ("news", 1))])
        row = (((1, 1), ("limit", "good")), ((1, 1), ("limit", "bad")), ((1, 1), ("probe", 1, 1)))
        extra = (((1, 1), ("bad", (A, B, 3, ("news", 2)))), ((1, 1), ("bad", (B, A, 3, ("news", 1)))))
        asked, probes = question(spot_form(A), 0, 10), self.PROBES
        self.assertIs(judge_paper(web, asked, probes, row + extra), True)
        self.assertIs(judge_paper(WEB, asked, probes, row + extra), False)
        for why in (("news", True), ("news", 2.0), ["news", 2]):
            self.assertIs(judge_paper(web, asked, probes, row + (((1, 1), ("bad", (A, B, 3, why))), extra[1])), False)

    def test_equality_of_both_sides_is_not_enough(self):
        # At most 2 more, and 2 more there must be: a pair is left.
        row = (((1, 1), ("limit", "good")), ((1, 1), ("limit", "bad")), ((1, 1), ("probe", 1, 1)))
        asked = question(spot_form(A), 4, 6)
        self.assertIs(judge_paper(WEB, asked, self.PROBES, row), False)
        self.assertIs(judge_paper(WEB, question(spot_form(A), 4, (61, 10)), self.PROBES, row), True)
        self.assertIs(judge_paper(WEB, question(spot_form(A), 4, (59, 10)), self.PROBES, row), False)
        self.assertIs(judge_paper(WEB, question(spot_form(A), (61, 10), 4), self.PROBES, row), False)

    def test_the_ground_is_always_0(self):
        web = Web([GROUND, A], tied(A, 0, 9))
        asked = question(spot_form(A), 20, 30)
        row = (((1, 1), ("bad", web.links[0])), ((1, 1), ("limit", "bad")))
        self.is_paper(web, asked, [], row)

    def test_no_errors(self):
        # Spots that are not there, and webs without a world, are no matter.
        strange = question(spot_form(Z), 0, 1)
        self.assertIs(judge_paper(WEB, strange, [(Z, GROUND, 0)], (((1, 1), ("limit", "good")),)), False)
        row = (((1, 1), ("limit", "good")), ((1, 1), ("limit", "bad")), ((1, 1), ("probe", 0, -1)))
        self.assertIs(judge_paper(WEB, strange, [(Z, GROUND, 0)], row), True)
        ring = BROKEN.bad_ring()
        self.assertIs(judge_paper(BROKEN, LOW, [], [((1, 1), ("good", link)) for link in ring]), True)


class Fewest(ProbeCase):
    def fewest(self, web, questions, probes):
        found = fewest(web, questions, probes)
        rows = [row for many in range(len(probes) + 1) for row in itertools.combinations(range(len(probes)), many) if settles(web, questions, [probes[number] for number in row])]
        self.assertEqual(found, rows[0] if rows else None)
        return found

    def test_the_first_of_several_sets(self):
        exact, rough, other = (GROUND, A, 0), (GROUND, A, 3), (GROUND, B, 0)
        self.assertEqual(self.fewest(WEB, [LOW], [rough, exact, other, exact]), (1,))
        self.assertEqual(self.fewest(WEB, [LOW], [exact, exact]), (0,))
        self.assertEqual(self.fewest(WEB, [LOW], (rough, other)), None)
        self.assertEqual(self.fewest(WEB, [LOW, question(spot_form(B), 4, 6)], [rough, exact, other, exact]), (1, 2))
        self.assertEqual(self.fewest(WEB, [LOW, question(spot_form(B), 4, 6)], [other, exact, exact, other]), (0, 1))
        self.assertEqual(self.fewest(WEB, [question(spot_form(A), 11, 12)], [rough]), ())
        self.assertEqual(self.fewest(WEB, [LOW], []), None)
        self.assertEqual(self.fewest(WEB, [question(spot_form(B, (A, (-1, 1))), -2, 2)], [exact, other, (A, B, 1), rough]), (2,))
        self.assertIs(type(fewest(WEB, [LOW], [exact])), tuple)

    def test_probes_that_are_rough_and_still_settle(self):
        for good, bad in ((0, 9), (1, 10), (10, 1), (9, 0)):
            for probe in ((GROUND, A, 4), (A, GROUND, 4)):
                self.assertEqual(self.fewest(WEB, [question(spot_form(A), good, bad)], [(GROUND, B, 4), probe, probe]), (1,))

    def test_one_with_more_slack_is_not_better(self):
        # Two rough ones tell what one does not.
        web = Web([GROUND, A, B], tied(A, 0, 10) + tied(B, 0, 10))
        probes = [(GROUND, A, 1), (GROUND, B, 1), (A, B, 1)]
        self.assertEqual(self.fewest(web, [question(spot_form(A, B), 3, 8)], probes), (0, 1))

    def test_random_webs(self):
        rng = random.Random(49)
        lengths = {}
        for _ in range(150):
            web = web_with_a_world(rng, 3, 4)
            questions = [open_question(rng, web, rng.randint(1, 2)) for _ in range(rng.choice((1, 1, 2, 4)))]
            probes = []
            for number in range(rng.randint(3, 6)):
                probes += some_probes(rng, web, questions[number % len(questions)][0], 1)
            found = self.fewest(web, questions, probes)
            lengths[None if found is None else len(found)] = True
        self.assertGreater(len(lengths), 3)


class Errors(ProbeCase):
    STRANGE_QUESTION = question(spot_form(A, Z), 0, 1)

    def calls(self, web, questions, probes):
        return [lambda: settles(web, questions, probes), lambda: fewest(web, questions, probes)]

    def single(self, web, asked, probes):
        return [lambda: pair(web, asked, probes), lambda: paper(web, asked, probes)]

    def test_too_many_questions_ahead_of_too_many_probes(self):
        for web in (WEB, BROKEN):
            for questions in ([LOW] * 5, (LOW,) * 9, [self.STRANGE_QUESTION] * 5):
                for probes in ([], [PROBE] * 6, [PROBE] * 7, [(Z, A, 0)] * 7):
                    for call in self.calls(web, questions, probes):
                        self.raises(TooMany, call, kind="question")

    def test_too_many_probes_ahead_of_no_spot_and_a_clash(self):
        for web in (WEB, BROKEN):
            for questions in ([], [LOW] * 4, [self.STRANGE_QUESTION]):
                for probes in ([PROBE] * 7, ((Z, A, 0),) * 8):
                    for call in self.calls(web, questions, probes):
                        self.raises(TooMany, call, kind="probe")
            for call in self.single(web, self.STRANGE_QUESTION, [PROBE] * 7):
                self.raises(TooMany, call, kind="probe")
        for row in ((), None, (((1, 1), ("limit", "good")),)):
            self.raises(TooMany, lambda: judge_paper(WEB, LOW, [PROBE] * 7, row), kind="probe")

    def test_as_many_as_there_may_be(self):
        self.assertFalse(settles(WEB, [LOW] * 4, [PROBE] * 6))
        self.assertIsNone(fewest(WEB, [LOW] * 4, [PROBE] * 6))
        self.assertFalse(judge_paper(WEB, LOW, [PROBE] * 6, ()))
        self.assertIsNotNone(pair(WEB, LOW, [PROBE] * 6))

    def test_no_spot_ahead_of_a_clash(self):
        other = ("y", 0, 0)
        for web in (Web([GROUND, A], tied(A, 0, 5)), BROKEN):
            for asked, probes, spot in (
                ([self.STRANGE_QUESTION], [(other, A, 0)], Z), ([LOW], [(A, Z, 0), (other, A, 0)], Z), ([LOW], [(Z, other, 0)], Z), ([LOW, question(spot_form(other, Z), 0, 1)], [(Z, A, 0)], other),
                ([LOW], [(GROUND, ("a", False, 0), 0)], ("a", False, 0)), ([LOW], [(("a", 0, False), GROUND, 0)], ("a", 0, False)), ([LOW], [(A, ("ground", 0, 1), 0)], ("ground", 0, 1)),
            ):
                for call in self.calls(web, asked, probes):
                    self.raises(NoSpot, call, spot=spot)
                for call in self.single(web, asked[-1], probes):
                    self.raises(NoSpot, call, spot=spot)
            # Also without questions.
            for call in self.calls(web, [], [(A, Z, 0)]):
                self.raises(NoSpot, call, spot=Z)

    def test_a_clash(self):
        for questions in ([], [LOW], [question(((), (1, 1)), 0, 1)]):
            for probes in ([], [PROBE]):
                for call in self.calls(BROKEN, questions, probes):
                    self.is_ring(BROKEN, self.raises(Clash, call).ring)
        for asked in (LOW, question(((), (1, 1)), 0, 1)):
            for call in self.single(BROKEN, asked, []):
                self.is_ring(BROKEN, self.raises(Clash, call).ring)

    def test_rows_stay(self):
        questions, probes = [LOW, HIGH], [PROBE, (GROUND, B, 0)]
        settles(WEB, questions, probes)
        fewest(WEB, questions, probes)
        pair(WEB, LOW, probes)
        paper(WEB, LOW, probes)
        self.assertEqual((questions, probes), ([LOW, HIGH], [PROBE, (GROUND, B, 0)]))


class Speed(ProbeCase):
    def test_six_probes_for_four_questions(self):
        charter = Charter(
            days=10, bases=("length",), devices=[device(name, fall=3, rise=2, steep=4, slack=20, cuts=(3, 6)) for name in ("dial", "ring", "rule")],
            features=[feature(name, fall=1, rise=2) for name in ("bore", "slot", "peg")],
        )
        web = Web(charter.all_spots(), charter.own_links())
        bore, slot, peg = [(name, 0, 4) for name in ("bore", "slot", "peg")]
        questions = [question(spot_form(bore), 40, 70), question(spot_form(bore, slot), 70, 130), question(spot_form(peg, (slot, (-1, 2))), 0, 40), question(spot_form(("dial", 1, 4), (peg, (1, 3))), -20, 30)]
        probes = [(("dial", 0, 4), bore, 2), (("dial", 0, 3), slot, 2), (GROUND, ("dial", 2, 4), 2), (("ring", 1, 4), peg, 2), (("ring", 0, 5), GROUND, 1), (("rule", 0, 0), ("rule", 2, 9), 1)]
        start = time.time()
        self.assertEqual(fewest(web, questions, probes), (0, 1, 2, 3, 4))
        for asked in questions:
            self.decided(web, asked, probes)
            self.decided(web, asked, probes[:2])
        self.assertLess(time.time() - start, 15)


if __name__ == "__main__":
    unittest.main()
