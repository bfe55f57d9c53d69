"""[6] stretches, [8] spots of a charter, [9] its links, [10] readings and the marks that are possible."""

import random
import unittest
from fractions import Fraction

from ellwarden.errors import BadMark, NoSpot
from ellwarden.marks import has_mark, marks_in, reading_links, stretch_of, stretches
from ellwarden.webs import Web
from ellwarden.worlds import GROUND, World
from samples import BORE, CALIPER, charter, device, feature

WHY = ("mark", 0)


def plain(**parts):
    return charter(**{"procedures": (), "jobs": (), "roles": (), **parts})


def world(**values):
    """A world of spots on day 0: x for the feature, o0, o1, o2 for the stretches of the dial."""
    pairs = [(GROUND, (0, 1))]
    for name, value in values.items():
        spot = ("slot", 0, 0) if name == "x" else ("dial", int(name[1]), 0)
        pairs.append((spot, value if isinstance(value, tuple) else (value, 1)))
    return World(pairs)


class Spots(unittest.TestCase):
    def test_spots_in_order(self):
        made = plain(days=2, devices=(device("dial", cuts=(3, 6)), device("arm")), features=(feature("slot"), feature("bore")))
        self.assertEqual(made.all_spots(), (
            ("ground", 0, 0),
            ("dial", 0, 0), ("dial", 0, 1), ("dial", 1, 0), ("dial", 1, 1), ("dial", 2, 0), ("dial", 2, 1),
            ("arm", 0, 0), ("arm", 0, 1),
            ("slot", 0, 0), ("slot", 0, 1), ("bore", 0, 0), ("bore", 0, 1),
        ))
        self.assertIs(type(made.all_spots()), tuple)

    def test_one_day(self):
        made = plain(days=1, devices=(device(cuts=(3,)),), features=(feature(),))
        self.assertEqual(made.all_spots(), (GROUND, ("dial", 0, 0), ("dial", 1, 0), ("slot", 0, 0)))


class Links(unittest.TestCase):
    def test_one_feature_on_one_day(self):
        made = plain(days=1, devices=(), features=(feature("slot", least=-3, greatest=7, fall=1, rise=2),))
        spot = ("slot", 0, 0)
        self.assertEqual(made.own_links(), ((GROUND, spot, 7, ("range", "slot")), (spot, GROUND, 3, ("range", "slot"))))

    def test_entry_by_entry(self):
        dial = device("dial", step=10, slack=50, least=-9, greatest=8, fall=1, rise=2, steep=3, cuts=(3, 6))
        slot = feature("slot", least=-7, greatest=-5, fall=5, rise=6)
        made = plain(days=3, devices=(dial,), features=(slot, feature("bore", least=4, greatest=4)))
        told = []
        for stretch in range(3):
            for day in range(3):
                spot = ("dial", stretch, day)
                told += [(GROUND, spot, 8, ("range", "dial")), (spot, GROUND, 9, ("range", "dial"))]
                if day < 2:
                    later = ("dial", stretch, day + 1)
                    told += [(spot, later, 2, ("drift", "dial")), (later, spot, 1, ("drift", "dial"))]
                if stretch < 2:
                    beside = ("dial", stretch + 1, day)
                    told += [(spot, beside, 3, ("steep", "dial")), (beside, spot, 3, ("steep", "dial"))]
        for name, least, greatest, fall, rise in (("slot", -7, -5, 5, 6), ("bore", 4, 4, 0, 0)):
            for day in range(3):
                spot = (name, 0, day)
                told += [(GROUND, spot, greatest, ("range", name)), (spot, GROUND, -least, ("range", name))]
                if day < 2:
                    later = (name, 0, day + 1)
                    told += [(spot, later, rise, ("drift", name)), (later, spot, fall, ("drift", name))]
        self.assertEqual(len(made.own_links()), len(told))
        for link, due in zip(made.own_links(), told):
            self.assertEqual(link, due)
        self.assertIs(type(made.own_links()), tuple)

    def test_the_first_links_told_word_by_word(self):
        made = charter(days=2)
        a, b, c, d = [("caliper", stretch, day) for stretch in (0, 1) for day in (0, 1)]
        x, y = ("bore", 0, 0), ("bore", 0, 1)
        reach, drift, steep = ("range", "caliper"), ("drift", "caliper"), ("steep", "caliper")
        self.assertEqual(made.own_links(), (
            (GROUND, a, 300, reach), (a, GROUND, 300, reach), (a, b, 5, drift), (b, a, 5, drift), (a, c, 40, steep), (c, a, 40, steep),
            (GROUND, b, 300, reach), (b, GROUND, 300, reach), (b, d, 40, steep), (d, b, 40, steep),
            (GROUND, c, 300, reach), (c, GROUND, 300, reach), (c, d, 5, drift), (d, c, 5, drift),
            (GROUND, d, 300, reach), (d, GROUND, 300, reach),
            (GROUND, x, 1900, ("range", "bore")), (x, GROUND, -500, ("range", "bore")),
            (x, y, 0, ("drift", "bore")), (y, x, 0, ("drift", "bore")),
            (GROUND, y, 1900, ("range", "bore")), (y, GROUND, -500, ("range", "bore")),
        ))

    def test_they_make_a_web_with_worlds(self):
        made = charter()
        web = Web(made.all_spots(), made.own_links())
        self.assertIsNone(web.bad_ring())
        self.assertEqual(web.highest()[("bore", 0, 4)], (1900, 1))


class Stretches(unittest.TestCase):
    def test_stretches(self):
        for cuts, many in (((), 1), ((4,), 2), ((4, 7), 3)):
            self.assertEqual(stretches(device(cuts=cuts)), many)

    def test_stretch_of_at_a_cut_below_and_beyond(self):
        entry = device(cuts=(4, 7))
        for mark, stretch in ((0, 0), (3, 0), (4, 1), (5, 1), (6, 1), (7, 2), (9, 2), (-5, 0), (-1000, 0), (10, 2), (1000, 2), (10 ** 30, 2)):
            self.assertEqual(stretch_of(entry, mark), stretch, mark)
        self.assertEqual(stretch_of(device(), 1000), 0)
        self.assertEqual(stretch_of(device(low=-9, high=9, cuts=(-8, 9)), -9), 0)
        self.assertEqual(stretch_of(device(low=-9, high=9, cuts=(-8, 9)), -8), 1)
        self.assertEqual(stretch_of(device(low=-9, high=9, cuts=(-8, 9)), 8), 1)
        self.assertEqual(stretch_of(device(low=-9, high=9, cuts=(-8, 9)), 9), 2)

    def test_has_mark(self):
        entry = device(low=-2, high=3)
        for mark in range(-5, 6):
            self.assertIs(has_mark(entry, mark), -2 <= mark <= 3)
        for thing in (True, False, None, "1", 1.0, (1,), [1]):
            self.assertIs(has_mark(entry, thing), False, thing)


class Readings(unittest.TestCase):
    DIAL = device("dial", low=-1, high=8, step=10, slack=25, cuts=(4, 8))

    def test_between_low_and_high(self):
        for mark, stretch in ((0, 0), (3, 0), (4, 1), (7, 1)):
            offset, size = ("dial", stretch, 2), ("slot", 0, 2)
            self.assertEqual(reading_links(self.DIAL, "slot", 2, mark, WHY), (
                (offset, size, 10 * mark + 25, WHY), (size, offset, 25 - 10 * mark, WHY),
            ))

    def test_at_the_low_and_the_high_mark(self):
        low, high, size = ("dial", 0, 0), ("dial", 2, 0), ("slot", 0, 0)
        self.assertEqual(reading_links(self.DIAL, "slot", 0, -1, ("news", 7)), ((low, size, 15, ("news", 7)),))
        self.assertEqual(reading_links(self.DIAL, "slot", 0, 8, ("news", 7)), ((size, high, -55, ("news", 7)),))

    def test_bad_marks(self):
        for mark in (-2, 9, -1000, 1000, True, False, None, "3", 3.0, (3,)):
            with self.assertRaises(BadMark) as caught:
                reading_links(self.DIAL, "slot", 0, mark, WHY)
            self.assertEqual(caught.exception.place, mark)

    def test_they_are_links_of_a_web(self):
        made = plain(devices=(self.DIAL,), features=(feature("slot"),))
        web = Web(made.all_spots(), made.own_links())
        for mark in range(-1, 9):
            web = web.more(reading_links(self.DIAL, "slot", 1, mark, WHY))
        self.assertEqual(len(web), len(made.own_links()) + 2 * 10 - 2)


class MarksIn(unittest.TestCase):
    DIAL = device("dial", low=0, high=4, step=10, slack=5)
    CUT = device("dial", low=0, high=4, step=10, slack=10, steep=10, cuts=(2, 3))

    def marks(self, entry, **values):
        return marks_in(world(**values), entry, "slot", 0)

    def test_just_at_and_just_beyond_where_a_mark_begins(self):
        for size, marks in (
            ((25, 1), (2, 3)), ((249, 10), (2,)), ((251, 10), (3,)), ((15, 1), (1, 2)), ((5, 1), (0, 1)), ((49, 10), (0,)),
            ((51, 10), (1,)), ((35, 1), (3, 4)), ((36, 1), (4,)), ((-1000, 1), (0,)), ((1000, 1), (4,)),
        ):
            self.assertEqual(self.marks(self.DIAL, x=size, o0=0), marks)
            shifted = (size[0] + 7 * size[1], size[1])
            self.assertEqual(self.marks(self.DIAL, x=shifted, o0=7), marks)

    def test_stretches_have_offsets_of_their_own(self):
        self.assertEqual(self.marks(self.CUT, x=20, o0=0, o1=0, o2=0), (1, 2, 3))
        self.assertEqual(self.marks(self.CUT, x=20, o0=1, o1=0, o2=0), (1, 2, 3))
        self.assertEqual(self.marks(self.CUT, x=20, o0=-1, o1=0, o2=0), (2, 3))
        self.assertEqual(self.marks(self.CUT, x=20, o0=0, o1=0, o2=1), (1, 2))
        self.assertEqual(self.marks(self.CUT, x=20, o0=10, o1=20, o2=20), (0, 1))
        self.assertEqual(self.marks(self.CUT, x=20, o0=-10, o1=-20, o2=-10), (3, 4))

    def test_the_day_is_looked_at(self):
        made = World([(GROUND, (0, 1)), (("slot", 0, 1), (20, 1)), (("dial", 0, 1), (0, 1)), (("slot", 0, 0), (0, 1)), (("dial", 0, 0), (0, 1))])
        self.assertEqual(marks_in(made, self.DIAL, "slot", 1), (2,))
        self.assertEqual(marks_in(made, self.DIAL, "slot", 0), (0,))

    def test_they_are_the_marks_whose_links_the_world_keeps(self):
        rng = random.Random(5)
        for _ in range(200):
            entry = rng.choice((self.DIAL, self.CUT, Readings.DIAL, CALIPER))
            values = {(entry[0], stretch, 0): (rng.randint(-60, 60), rng.randint(1, 3)) for stretch in range(3)}
            values["slot", 0, 0] = (rng.randint(-60, 200), 1)
            made = World([(GROUND, (0, 1))] + [(spot, self.lowest_terms(value)) for spot, value in values.items()])
            due = [
                mark for mark in range(entry[2], entry[3] + 1)
                if all(made.keeps(link) for link in reading_links(entry, "slot", 0, mark, WHY))
            ]
            found = marks_in(made, entry, "slot", 0)
            self.assertIs(type(found), tuple)
            self.assertEqual(found, tuple(due))

    def lowest_terms(self, value):
        number = Fraction(*value)
        return (number.numerator, number.denominator)

    def test_some_mark_is_possible_in_every_world_of_the_charter(self):
        rng = random.Random(6)
        for _ in range(60):
            step, steep = rng.randint(1, 40), rng.randint(0, 30)
            cuts = tuple(sorted(rng.sample(range(1, 10), rng.randint(0, 2))))
            entry = device("dial", step=step, slack=(step + steep + 1) // 2, steep=steep, cuts=cuts, least=-60, greatest=60)
            made = plain(days=1, devices=(entry,), features=(feature("slot", least=-100, greatest=500),))
            web = Web(made.all_spots(), made.own_links())
            for _ in range(12):
                a, b = rng.sample(web.spots, 2)
                low, high = -web.bound(b, a), web.bound(a, b)
                gap = rng.randint(low, high)
                inner = web.more([(a, b, gap, WHY), (b, a, -gap, WHY)])
                for found in (inner.highest(), inner.lowest(), inner.reaching(b, a), inner.reaching(*rng.sample(web.spots, 2))):
                    self.assertTrue(web.allows(found))
                    self.assertNotEqual(marks_in(found, entry, "slot", 0), ())

    def test_no_spot(self):
        for values, lacking in (
            (dict(x=0), ("dial", 0, 0)), (dict(x=0, o1=0, o2=0), ("dial", 0, 0)), (dict(x=900, o0=0, o2=0), ("dial", 1, 0)),
            (dict(x=0, o0=0, o1=0), ("dial", 2, 0)), (dict(x=0, o0=0), ("dial", 1, 0)), (dict(o0=0, o1=0, o2=0), ("slot", 0, 0)),
        ):
            with self.assertRaises(NoSpot) as caught:
                self.marks(self.CUT, **values)
            self.assertEqual(caught.exception.spot, lacking)
        with self.assertRaises(NoSpot) as caught:
            marks_in(world(x=0, o0=0), self.DIAL, BORE[0], 0)
        self.assertEqual(caught.exception.spot, ("bore", 0, 0))
        whole = World([(GROUND, (0, 1)), (("dial", 0, 0), (0, 1)), (("slot", 0, 0), (0, 1)), (("slot", 0, 1), (0, 1))])
        with self.assertRaises(NoSpot) as caught:
            marks_in(whole, self.DIAL, "slot", 1)
        self.assertEqual(caught.exception.spot, ("dial", 0, 1))


if __name__ == "__main__":
    unittest.main()
