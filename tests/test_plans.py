"""[47] plans of readings, and answers to all plans."""

import random
import time
import unittest

from ellwarden.cards import card_of
from ellwarden.charters import Charter
from ellwarden.claims import is_bad, is_good
from ellwarden.errors import Clash, NoSpot, TooMany
from ellwarden.forms import Form
from ellwarden.marks import has_mark, reading_links
from ellwarden.plans import answer, plan
from ellwarden.quantities import verdict
from ellwarden.webs import Web
from ellwarden.worlds import GROUND
from samples import device, feature, spot_form
from test_webs import WebCase

BORE, SLOT = ("bore", 0, 1), ("slot", 0, 1)
# The marks of the dial are 10 grains apart, those of the ring 20, and those of the coarse one 50.
DIAL = device("dial", high=4, least=0, greatest=0)
RING = device("ring", high=2, step=20, slack=10, least=0, greatest=0)
COARSE = device("coarse", high=1, step=50, slack=30, least=-5, greatest=5, cuts=(1,))
CHARTER = Charter(days=3, bases=("length",), devices=(DIAL, RING, COARSE), features=(feature("bore", greatest=50), feature("slot", greatest=50)))
WEB = Web(CHARTER.all_spots(), CHARTER.own_links())
SIZE = spot_form(BORE)
CLASH = ("clash",)


def question(form, good, bad):
    return (form, (good, 1), (bad, 1))


def marks_of(name, charter=CHARTER):
    return range(charter[name][2], charter[name][3] + 1)


def behind(web, charter, day, entry, mark):
    """The web behind a mark, or None if no world is left."""
    found = web.more(reading_links(charter[entry[1]], entry[0], day, mark, ("mark", 0)))
    return found if found.bad_ring() is None else None


def word_of(web, asked):
    return verdict(web, ("sum", asked[0], (1,)), *asked[1:]).word


def plain_plan(charter, web, day, asked, menu, most):
    """The pair of the depth and the least plan, as it is told; None if the depth is above most."""
    word = word_of(web, asked)
    if word != "open":
        return 0, (word,)
    found = []
    for number, entry in enumerate(menu if most else ()):
        plans = [(mark, behind(web, charter, day, entry, mark)) for mark in marks_of(entry[1], charter)]
        plans = [(mark, (0, CLASH) if further is None else plain_plan(charter, further, day, asked, menu, most - 1)) for mark, further in plans]
        if None not in [one for _, one in plans]:
            spans = []
            for mark, (_, told) in plans:
                if spans and spans[-1][2] == told:
                    spans[-1] = (spans[-1][0], mark, told)
                else:
                    spans.append((mark, mark, told))
            found.append((1 + max(depth for _, (depth, _) in plans), ("read", number, tuple(spans))))
    return min(found, key=lambda pair: pair[0]) if found else None


class PlanCase(WebCase):
    def planned(self, asked, menu, most, web=WEB, charter=CHARTER, day=1):
        """The plan, or None; then there is an answer."""
        found = plan(charter, web, day, asked, menu, most=most)
        told = plain_plan(charter, web, day, asked, menu, most)
        self.assertEqual(found, None if told is None else told[1])
        reply = answer(charter, web, day, asked, menu, most=most)
        if found is None:
            self.answers(charter, web, day, asked, menu, most, reply, ())
        else:
            self.assertIsNone(reply)
            self.decides(charter, web, day, asked, menu, most, found)
        self.assertEqual(plan(charter, web, day, asked, list(menu), most=most), found)
        return found

    def decides(self, charter, web, day, asked, menu, most, found):
        """A plan, word for word: at each end the verdict is the one told."""
        if found[0] != "read":
            self.assertEqual(found, (word_of(web, asked),))
            return
        self.assertGreater(most, 0)
        _, number, spans = found
        device = charter[menu[number][1]]
        self.assertEqual((spans[0][0], spans[-1][1]), device[2:4])
        for (_, last, told), (first, _, beside) in zip(spans, spans[1:]):
            self.assertEqual(first, last + 1)
            self.assertNotEqual(told, beside)
        for first, last, told in spans:
            for mark in range(first, last + 1):
                further = behind(web, charter, day, menu[number], mark)
                self.assertEqual(told == CLASH, further is None)
                if further is not None:
                    self.decides(charter, further, day, asked, menu, most - 1, told)

    def answers(self, charter, web, day, asked, menu, most, reply, links):
        """An answer to all plans, word for word."""
        self.assertIs(type(reply), tuple)
        if most == 0:
            word, good, bad = reply
            self.assertEqual(word, "open")
            form, G, N = asked
            self.is_world(web, good)
            self.is_world(web, bad)
            self.assertTrue(is_good(Form(*form)(good), G, N))
            self.assertTrue(is_bad(Form(*form)(bad), G, N))
            return
        word, answers = reply
        self.assertEqual((word, type(answers), len(answers)), ("shown", tuple, len(menu)))
        for entry, pair in zip(menu, answers):
            self.assertIs(type(pair), tuple)
            mark, told = pair
            self.assertTrue(has_mark(charter[entry[1]], mark))
            further = behind(web, charter, day, entry, mark)
            self.assertIsNotNone(further)
            self.answers(charter, further, day, asked, menu, most - 1, told, links)


class Plans(PlanCase):
    def test_depth_0(self):
        for most in (0, 1, 2, 3):
            for menu in ([("bore", "ring")], [("slot", "dial")]):
                self.assertEqual(self.planned(question(SIZE, 50, 51), menu, most), ("passed",))
                self.assertEqual(self.planned(question(SIZE, -1, 0), menu, most), ("failed",))
                self.assertEqual(self.planned(question(((), (5, 1)), 5, 6), menu, most), ("passed",))
                self.assertEqual(self.planned(question(((), (5, 1)), 4, 5), menu, most), ("failed",))
                # Neither good nor bad.
                self.assertEqual(self.planned(question(((), (5, 1)), 4, 6), menu, most), ("passed",))

    def test_depth_1(self):
        # The mark m of the ring says from 20 m - 10 to 20 m + 10.
        self.assertEqual(self.planned(question(SIZE, 9, 31), [("bore", "ring")], 1), ("read", 0, ((0, 1, ("passed",)), (2, 2, ("failed",)))))
        self.assertEqual(self.planned(question(SIZE, 31, 9), [("bore", "ring")], 1), ("read", 0, ((0, 0, ("failed",)), (1, 2, ("passed",)))))
        self.assertIsNone(self.planned(question(SIZE, 9, 10), [("bore", "ring")], 1))
        # It just settles, and just does not.
        self.assertIsNotNone(self.planned(question(SIZE, 10, 31), [("bore", "ring")], 1))
        self.assertIsNone(self.planned(question(SIZE, 10, 30), [("bore", "ring")], 1))

    def test_the_first_reading_of_the_menu_with_the_least_depth(self):
        asked = question(SIZE, 9, 31)
        ring, dial, slot = ("bore", "ring"), ("bore", "dial"), ("slot", "ring")
        for menu, number in (([ring, dial], 0), ([dial, ring], 0), ([slot, ring], 1), ([slot, dial, ring], 1), ([("bore", "coarse"), ring], 1), ([slot, ring, ring], 1)):
            for most in (1, 2):
                if sum(len(marks_of(name)) for _, name in menu) ** most <= 1000:
                    found = self.planned(asked, menu, most)
                    self.assertEqual(found[:2], ("read", number))

    def test_depth_2_and_3(self):
        # Readings of both pieces tell their sum, and neither does alone.
        both = question(spot_form(BORE, SLOT), 40, 85)
        menu = [("bore", "ring"), ("slot", "ring")]
        self.assertIsNone(self.planned(both, menu, 0))
        self.assertIsNone(self.planned(both, menu, 1))
        found = self.planned(both, menu, 2)
        self.assertEqual(found[:2], ("read", 0))
        self.assertEqual(self.planned(both, menu, 3), found)
        self.assertIn("read", str(found[2]))
        # Some marks need no further reading.
        self.assertIn(("passed",), [told for _, _, told in found[2]])
        deep = question(spot_form((BORE, (2, 1)), SLOT), 60, 92)
        depths = [self.planned(deep, menu, most) for most in (1, 2, 3)]
        self.assertIsNone(depths[0])

    def test_readings_that_are_taken_again(self):
        # With a slack of its own, each reading tells the same; but an offset in the way is found out.
        charter = Charter(days=1, bases=("length",), devices=(device("dial", high=3, step=20, slack=10, least=-10, greatest=10), device("ring", high=1, step=20, slack=10, least=0, greatest=0)), features=(feature("bore", greatest=60), feature("gap", least=20, greatest=20)))
        web = Web(charter.all_spots(), charter.own_links())
        asked = question(spot_form(("bore", 0, 0)), 20, 45)
        menu = [("bore", "dial"), ("gap", "dial")]
        for most in (0, 1, 2, 3):
            self.planned(asked, menu, most, web, charter, 0)

    def test_spans_are_joined(self):
        found = self.planned(question(SIZE, 20, 41), [("bore", "dial")], 1)
        self.assertEqual(found, ("read", 0, ((0, 3, ("passed",)), (4, 4, ("failed",)))))
        found = self.planned(question(SIZE, 9, 31), [("bore", "dial")], 1)
        self.assertEqual(found, ("read", 0, ((0, 2, ("passed",)), (3, 4, ("failed",)))))

    def test_marks_that_leave_no_world(self):
        web = WEB.more([(GROUND, BORE, 35, ("news", 0)), (BORE, GROUND, -5, ("news", 0)), (GROUND, ("bore", 0, 1), 35, ("news", 0))])
        found = self.planned(question(SIZE, 9, 31), [("bore", "dial")], 1, web)
        self.assertEqual(found, ("read", 0, ((0, 2, ("passed",)), (3, 4, ("failed",)))))
        narrow = WEB.more([(BORE, GROUND, -15, ("news", 0)), (GROUND, BORE, 28, ("news", 0))])
        found = self.planned(question(SIZE, 17, 23), [("bore", "dial")], 1, narrow)
        self.assertIsNone(found)
        found = self.planned(question(SIZE, 19, 31), [("bore", "dial")], 1, WEB.more([(BORE, GROUND, -15, ("news", 0))]))
        self.assertEqual(found, ("read", 0, ((0, 0, CLASH), (1, 2, ("passed",)), (3, 4, ("failed",)))))

    def test_what_is_the_same_on_the_card(self):
        # Only the spots of the question and of the menu matter.
        asked = question(spot_form(BORE, SLOT), 40, 85)
        menu = [("bore", "ring"), ("slot", "ring")]
        spots = [BORE, SLOT, ("ring", 0, 1)]
        small = card_of(WEB, spots).as_web()
        for most in (0, 1, 2):
            self.assertEqual(self.planned(asked, menu, most, small), self.planned(asked, menu, most))

    def test_random_questions(self):
        rng = random.Random(47)
        depths = {}
        for _ in range(200):
            web = WEB
            for _ in range(rng.randint(0, 2)):
                a, b = rng.sample([GROUND, BORE, SLOT], 2)
                further = web.more([(a, b, web.bound(a, b) - rng.randint(0, 30), ("news", 0))])
                web = web if further.bad_ring() is not None else further
            form = rng.choice((SIZE, spot_form(BORE, SLOT), spot_form(SLOT, (BORE, (-1, 2)), rest=(3, 2)), spot_form(("coarse", 1, 1), BORE)))
            low = rng.randint(-20, 70)
            asked = question(form, low, low + rng.choice((-1, 1)) * rng.randint(10, 45))
            menu = rng.sample([("bore", "ring"), ("slot", "ring"), ("bore", "coarse"), ("slot", "coarse"), ("bore", "dial")], rng.randint(1, 3))
            most = rng.choice((0, 1, 2, 2, 2, 3))
            if sum(len(marks_of(name)) for _, name in menu) ** most > 300:
                most = 1
            found = self.planned(asked, menu, most, web)
            depths[None if found is None else self.depth(found)] = True
        self.assertGreaterEqual(len(depths), 4)

    def depth(self, found):
        return 1 + max(self.depth(told) for _, _, told in found[2]) if found[0] == "read" else 0


class Answers(PlanCase):
    def test_open_at_once(self):
        reply = answer(CHARTER, WEB, 1, question(SIZE, 20, 30), [("bore", "ring")], most=0)
        self.answers(CHARTER, WEB, 1, question(SIZE, 20, 30), [("bore", "ring")], 0, reply, ())

    def test_shown_with_one_pair_for_each_reading_of_the_menu(self):
        asked = question(SIZE, 24, 26)
        for menu in ([("bore", "ring")], [("slot", "dial"), ("bore", "coarse")], [("bore", "coarse"), ("bore", "ring"), ("slot", "ring")]):
            for most in (1, 2):
                self.assertIsNone(self.planned(asked, menu, most))
        reply = answer(CHARTER, WEB, 1, asked, [("bore", "ring"), ("slot", "ring")], most=1)
        self.assertEqual((reply[0], len(reply[1])), ("shown", 2))
        # Of the piece itself only the mark in the middle leaves it open.
        self.assertEqual(reply[1][0][0], 1)

    def test_none_where_there_is_a_plan(self):
        for most in (1, 2, 3):
            self.assertIsNone(answer(CHARTER, WEB, 1, question(SIZE, 9, 31), [("bore", "ring")], most=most))
        self.assertIsNone(answer(CHARTER, WEB, 1, question(SIZE, 50, 51), [("bore", "ring")], most=0))

    def test_worlds_of_the_whole_web(self):
        # The web has other days and devices, and news about them.
        web = WEB.more([(("slot", 0, 0), ("bore", 0, 1), 3, ("news", 0)), (("bore", 0, 1), ("slot", 0, 0), 3, ("news", 0))])
        reply = answer(CHARTER, web, 1, question(SIZE, 20, 30), [("slot", "ring"), ("bore", "coarse")], most=2)
        self.answers(CHARTER, web, 1, question(SIZE, 20, 30), [("slot", "ring"), ("bore", "coarse")], 2, reply, ())


class Errors(PlanCase):
    def calls(self, web, asked, menu, most, day=1, charter=CHARTER):
        return [lambda: plan(charter, web, day, asked, menu, most=most), lambda: answer(charter, web, day, asked, menu, most=most)]

    def many(self, *marks):
        """A charter with devices of so many marks, its web, and a menu of them."""
        devices = [device(name, high=number - 1, step=1, slack=1) for name, number in zip(("dial", "ring", "rule"), marks)]
        charter = Charter(days=1, bases=("length",), devices=devices, features=(feature("bore"),))
        return charter, Web(charter.all_spots(), charter.own_links()), [("bore", entry[0]) for entry in devices]

    def test_too_many_rows_of_marks(self):
        closed = question(((), (5, 1)), 5, 6)
        for marks, most, told in (
            ((10,), 3, False), ((11,), 3, True), ((5, 5), 3, False), ((5, 6), 3, True), ((3, 3, 4), 3, False), ((4, 4, 4), 3, True), ((31,), 2, False), ((32,), 2, True), ((16, 15), 2, False),
            ((16, 16), 2, True), ((60,), 1, False), ((60, 60, 60), 1, False), ((60, 60, 60), 0, False), ((60, 60, 60), 2, True), ((60, 60, 60), 3, True), ((2,), 3, False),
        ):
            charter, web, menu = self.many(*marks)
            # Also where no reading is needed.
            for call in self.calls(web, closed, menu, most, 0, charter):
                if told:
                    self.raises(TooMany, call, kind="mark")
                else:
                    self.assertIn(call(), (("passed",), None))
        charter, web, menu = self.many(6)
        for call in self.calls(web, closed, menu * 2, 3, 0, charter):
            self.raises(TooMany, call, kind="mark")

    def test_no_spot_then_clash_then_too_many(self):
        charter, web, menu = self.many(60, 60)
        size = ("bore", 0, 0)
        broken = web.more([(GROUND, size, -1, ("news", 0))])
        for one in (web, broken):
            for form in (spot_form(("zzz", 0, 0)), spot_form(size, ("zzz", 0, 0)), spot_form(("bore", 0, 1))):
                spot = [spot for spot, _ in form[0] if spot not in web][0]
                for call in self.calls(one, question(form, 5, 6), menu, 3, 0, charter):
                    self.raises(NoSpot, call, spot=spot)
            # Of the menu: the feature, then the device, stretch by stretch.
            for call in self.calls(one, question(spot_form(size), 5, 6), menu, 3, 1, charter):
                self.raises(NoSpot, call, spot=("bore", 0, 1))
        for call in self.calls(broken, question(spot_form(size), 5, 6), menu, 3, 0, charter):
            self.is_ring(broken, self.raises(Clash, call).ring)
        for call in self.calls(broken, question(((), (5, 1)), 5, 6), menu, 0, 0, charter):
            self.is_ring(broken, self.raises(Clash, call).ring)

    def test_spots_of_the_menu_that_are_lacking(self):
        asked = question(SIZE, 9, 31)
        menu = [("bore", "ring"), ("slot", "coarse")]
        whole = [BORE, ("ring", 0, 1), SLOT, ("coarse", 0, 1), ("coarse", 1, 1)]
        for lacking in whole[1:]:
            web = card_of(WEB, [spot for spot in whole if spot != lacking]).as_web()
            for call in self.calls(web, asked, menu, 1):
                self.raises(NoSpot, call, spot=lacking)
        for call in self.calls(card_of(WEB, []).as_web(), asked, menu, 1):
            self.raises(NoSpot, call, spot=BORE)
        for call in self.calls(card_of(WEB, [BORE]).as_web(), asked, menu, 1):
            self.raises(NoSpot, call, spot=("ring", 0, 1))
        for call in self.calls(card_of(WEB, whole).as_web(), asked, menu, 1):
            call()

    def test_most_is_passed_by_keyword(self):
        for call in (plan, answer):
            with self.assertRaises(TypeError):
                call(CHARTER, WEB, 1, question(SIZE, 9, 31), [("bore", "ring")], 1)
            with self.assertRaises(TypeError):
                call(CHARTER, WEB, 1, question(SIZE, 9, 31), [("bore", "ring")])


class Speed(PlanCase):
    def test_three_readings(self):
        charter = Charter(
            days=20, bases=("length",), devices=[device(name, high=high, fall=1, rise=1, steep=2, step=20, slack=20, cuts=(1,)) for name, high in (("dial", 3), ("ring", 3), ("rule", 1))],
            features=[feature(name, fall=1, rise=2) for name in ("bore", "slot", "peg")],
        )
        web = Web(charter.all_spots(), charter.own_links())
        menu = [("bore", "dial"), ("slot", "ring"), ("peg", "rule")]
        start = time.time()
        for form, low, high in ((spot_form(("bore", 0, 7)), 30, 50), (spot_form(("bore", 0, 7), ("slot", 0, 7)), 50, 130), (spot_form(("bore", 0, 7), ("slot", 0, 6), (("peg", 0, 8), (1, 3))), 40, 160)):
            asked = question(form, low, high)
            found = plan(charter, web, 7, asked, menu, most=3)
            reply = answer(charter, web, 7, asked, menu, most=3)
            self.assertEqual(found is None, reply is not None)
        self.assertLess(time.time() - start, 15)


if __name__ == "__main__":
    unittest.main()
