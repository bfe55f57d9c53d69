"""[6] charters, part by part; [7] how a charter is judged, but for the faults of procedures."""

import unittest

from ellwarden.charters import Charter
from ellwarden.errors import BadCharter, BadStep, Ring, TooLong, TooMany, Twice, Unknown
from ellwarden.units import Units
from samples import BORE, CALIPER, FITONE, MM, PARTS, Case, charter, device, feature

LETTERS = "abcdefghijklmnop"
ORDER = ("days", "bases", "units", "devices", "features", "roles", "jobs", "procedures")
NO_ROWS = (None, "abc", 3, True, {"a": 1}, range(2))
NO_NAMES = (None, 1, True, "", "Bore", "bore1", "abcdefghijklm", "ground", "size", "a b", ("bore",), ["bore"], b"bore")
NO_SIZES = (None, True, False, "1", 1.0, (1, 1), 10 ** 9 + 1, -(10 ** 9) - 1)
EMPTY = ("work", (), (), ())


def exchanged(entry, place, item):
    return entry[:place] + (item,) + entry[place + 1:]


class CharterCase(Case):
    def refused(self, part, place, **parts):
        with self.assertRaises(BadCharter, msg=repr(parts)) as caught:
            charter(**parts)
        self.assertEqual((caught.exception.part, caught.exception.place), (part, place), repr(parts))

    def entry_refused(self, part, entry):
        """The entry is refused at its place, also ahead of further bad ones, and in a list."""
        good = PARTS[part]
        self.refused(part, 1, **{part: good + (entry,)})
        self.refused(part, 0, **{part: [entry, None]})


class DaysAndBases(CharterCase):
    def test_days(self):
        self.assertEqual(Charter.DAYS, 20)
        for days in (1, 2, 20):
            self.assertEqual(charter(days=days, devices=(), features=(), roles=(), jobs=(), procedures=()).days, days)
        for days in (0, -1, 21, None, True, "5", 5.0, (5,), [5]):
            self.refused("days", -1, days=days)

    def test_bases(self):
        for name in NO_NAMES:
            self.refused("bases", 1, bases=["length", name, None], units=[None])
            self.refused("bases", 0, bases=(name,))

    def test_1_to_4_bases(self):
        for many in range(7):
            bases = ("length", "a", "b", "c", "d", "e")[:many]
            units = (("mm", (1,) + (0,) * (many - 1), (1, 1)),) if many else ()
            parts = {**PARTS, "bases": bases, "units": units}
            if many == 0:
                parts.update(devices=(), features=(), roles=(), procedures=())
            if 1 <= many <= 4:
                self.assertEqual(Charter(**parts).bases, bases)
            else:
                self.raises(TooMany, lambda parts=parts: Charter(**parts), kind="bases")


class Rows(CharterCase):
    def test_a_part_that_is_no_row(self):
        for part in ORDER[1:]:
            for thing in NO_ROWS:
                self.refused(part, -1, **{part: thing})

    def test_an_entry_of_another_kind(self):
        for part in ORDER[1:]:
            for thing in (None, 3, True, (), "Bore!", {"a": 1}, [["a"]]):
                self.entry_refused(part, thing)
        for part in ("units", "devices", "features", "roles", "procedures"):
            entry = PARTS[part][0]
            for thing in (list(entry), entry[:-1], entry + (0,), entry[0], entry[1:]):
                self.entry_refused(part, thing)

    def test_names_of_entries(self):
        for part in ("units", "devices", "features", "roles", "procedures"):
            for name in NO_NAMES:
                self.entry_refused(part, exchanged(PARTS[part][0], 0, name))
        for name in NO_NAMES:
            self.entry_refused("jobs", name)

    def test_bases_that_are_not_there(self):
        for part in ("devices", "features", "roles"):
            for base in ("mass", "mm", "lengt", "", None, True, 0, ["length"], ("length",)):
                self.entry_refused(part, exchanged(PARTS[part][0], 1, base))


class UnitForms(CharterCase):
    def test_dimensions_and_factors(self):
        for dimension in ((), (1, 0), [1], (10,), (-10,), (True,), ("1",), (1.0,), None, 1, "length"):
            self.entry_refused("units", ("inch", dimension, (1, 1)))
        for factor in ((0, 1), (-1, 1), (2, 2), (1, 0), [1, 1], 1, "1", None, (True, 1), (1, True), (10 ** 12, 1), (1, 10 ** 12)):
            self.entry_refused("units", ("inch", (1,), factor))

    def test_just_at_the_bound(self):
        for dimension, factor in (((9,), (10 ** 12 - 1, 1)), ((-9,), (1, 10 ** 12 - 1)), ((0,), (1, 1))):
            self.assertEqual(charter(units=(MM, ("inch", dimension, factor))).units[1][1:], (dimension, factor))

    def test_an_exponent_for_each_base(self):
        self.refused("units", 0, bases=("length", "time"))
        self.refused("units", 0, bases=("length", "a", "b", "c", "d"), units=[("mm", (1, 0, 0, 0), (1, 1))])
        self.assertEqual(len(charter(bases=("length", "time"), units=[("mm", (1, 0), (1, 1))]).units), 1)


class DeviceForms(CharterCase):
    # The places: name 0, base 1, low 2, high 3, step 4, slack 5, least 6, greatest 7, fall 8, rise 9, steep 10, cuts 11.

    def taken(self, entry):
        self.assertEqual(charter(devices=(CALIPER, entry)).devices[1], entry)

    def test_integers(self):
        for place in range(2, 11):
            for thing in NO_SIZES:
                self.entry_refused("devices", exchanged(device(), place, thing))

    def test_marks(self):
        for low, high in ((-1000, -999), (-1000, -941), (999, 1000), (941, 1000), (0, 1), (-30, 29)):
            self.taken(device(low=low, high=high))
        for low, high in ((-1001, -999), (999, 1001), (1000, 1001), (-1001, -1000), (5, 5), (5, 4), (0, 60), (-1000, -940), (-1000, 1000)):
            self.entry_refused("devices", device(low=low, high=high))
        self.taken(device(low=0, high=59))

    def test_steps(self):
        self.taken(device(step=1, slack=1))
        self.taken(device(step=10 ** 9, slack=10 ** 9))
        for step in (0, -1, 10 ** 9 + 1):
            self.entry_refused("devices", device(step=step, slack=10 ** 9))

    def test_slack(self):
        self.taken(device(step=10, slack=5))
        self.taken(device(step=9, slack=5))
        self.taken(device(step=10, slack=8, steep=6))
        self.taken(device(step=10, slack=10 ** 9))
        for step, slack, steep in ((10, 4, 0), (11, 5, 0), (10, 8, 7), (10, 7, 6), (10, 0, 0), (10, -5, 0), (10, 10 ** 9 + 1, 0)):
            self.entry_refused("devices", device(step=step, slack=slack, steep=steep))

    def test_least_and_greatest(self):
        self.taken(device(least=-10 ** 9, greatest=10 ** 9))
        self.taken(device(least=7, greatest=7))
        self.taken(device(least=10 ** 9, greatest=10 ** 9))
        for least, greatest in ((8, 7), (0, -1), (-10 ** 9 - 1, 0), (0, 10 ** 9 + 1)):
            self.entry_refused("devices", device(least=least, greatest=greatest))

    def test_fall_rise_and_steep(self):
        for word in ("fall", "rise", "steep"):
            self.taken(device(slack=10 ** 9, **{word: 10 ** 9}))
            self.taken(device(slack=10 ** 9, **{word: 0}))
            for worth in (-1, 10 ** 9 + 1):
                self.entry_refused("devices", device(slack=10 ** 9, **{word: worth}))

    def test_cuts(self):
        for cuts in ((), (1,), (9,), (1, 2), (1, 9), (8, 9)):
            self.taken(device(low=0, high=9, cuts=cuts))
        for cuts in (
            (0,), (10,), (-1,), (0, 5), (5, 10), (5, 5), (6, 5), (1, 2, 3), [5], [], None, 5, (True,), ("5",), (5.0,), (None,), "5",
            (1, True), ((5,),), {5: 1},
        ):
            self.entry_refused("devices", device(low=0, high=9, cuts=cuts))


class FeatureForms(CharterCase):
    def test_integers(self):
        for place in range(2, 6):
            for thing in NO_SIZES:
                self.entry_refused("features", exchanged(feature(), place, thing))

    def test_just_at_the_bound_and_beyond(self):
        for entry in (
            feature(least=-10 ** 9, greatest=10 ** 9), feature(least=3, greatest=3), feature(fall=10 ** 9), feature(rise=10 ** 9),
        ):
            self.assertEqual(charter(features=(BORE, entry)).features[1], entry)
        for entry in (
            feature(least=4, greatest=3), feature(fall=-1), feature(rise=-1), feature(fall=10 ** 9 + 1), feature(rise=10 ** 9 + 1),
            feature(least=-10 ** 9 - 1), feature(greatest=10 ** 9 + 1),
        ):
            self.entry_refused("features", entry)


class Numbers(CharterCase):
    MOST = {"units": 12, "devices": 6, "features": 6, "roles": 6, "jobs": 6, "procedures": 8}

    def entries(self, part, many):
        rows = {
            "units": [("x" + letter, (1,), (1, 1)) for letter in LETTERS],
            "devices": [device("x" + letter) for letter in LETTERS],
            "features": [feature("x" + letter) for letter in LETTERS],
            "roles": [("x" + letter, "length") for letter in LETTERS],
            "jobs": ["x" + letter for letter in LETTERS],
            "procedures": [("x" + letter, (), (), ()) for letter in LETTERS],
        }
        return rows[part][:many]

    def test_just_at_what_is_told_and_beyond(self):
        for part, most in self.MOST.items():
            empty = {other: () for other in self.MOST}
            for many in (0, 1, most):
                made = charter(**{**empty, part: self.entries(part, many)})
                self.assertEqual(len(getattr(made, part)), many)
            self.raises(TooMany, lambda: charter(**{**empty, part: self.entries(part, most + 1)}), kind=part)

    def test_the_first_part_with_too_many(self):
        parts = {part: self.entries(part, most + 1) for part, most in self.MOST.items()}
        for part in self.MOST:
            self.raises(TooMany, lambda: charter(days=20, **parts), kind=part)
            parts[part] = self.entries(part, self.MOST[part]) if part == "units" else ()
        self.assertEqual(len(charter(**parts).units), 12)

    def things(self, stretches, features):
        """Devices with so many stretches in all, and so many features."""
        devices = []
        while stretches > 0:
            cuts = (3, 6)[:min(stretches, 3) - 1]
            devices.append(device("x" + LETTERS[len(devices)], cuts=cuts))
            stretches -= len(cuts) + 1
        return {"devices": devices, "features": [feature("y" + letter) for letter in LETTERS[:features]]}

    def test_240_and_241_spots(self):
        self.assertEqual(Charter.SPOTS, 240)
        # One for the ground, and for each day one for each stretch and each feature. 240 is not to be had.
        for days, stretches, features in ((17, 9, 5), (14, 17, 0), (14, 12, 5), (14, 11, 6), (1, 18, 6), (20, 8, 3), (18, 13, 0)):
            made = charter(days=days, **self.things(stretches, features))
            self.assertEqual(len(made.all_spots()), 1 + days * (stretches + features))
            self.assertLess(len(made.all_spots()), 240)
        for days, stretches, features in ((20, 12, 0), (20, 6, 6), (16, 15, 0), (16, 9, 6), (15, 12, 4), (15, 16, 0), (12, 16, 4), (10, 18, 6)):
            self.assertEqual(1 + days * (stretches + features), 241)
            self.raises(TooMany, lambda: charter(days=days, **self.things(stretches, features)), kind="spot")
        for days, stretches, features in ((20, 18, 6), (20, 18, 0), (18, 9, 5), (13, 18, 1)):
            self.raises(TooMany, lambda: charter(days=days, **self.things(stretches, features)), kind="spot")

    def test_too_many_spots_ahead_of_names_that_come_twice(self):
        things = [device("x", cuts=(3, 6))] * 4
        self.raises(TooMany, lambda: charter(days=20, devices=things), kind="spot")
        self.raises(TooMany, lambda: charter(devices=[device("x")] * 7), kind="devices")
        self.raises(Twice, lambda: charter(days=19, devices=things, features=()), name="x")
        self.raises(TooMany, lambda: charter(days=20, devices=things, features=()), kind="spot")


class Names(CharterCase):
    def test_within_a_part(self):
        for part in ORDER[1:]:
            if part == "bases":
                parts = {"bases": ("length", "time", "length"), "units": ()}
                self.raises(Twice, lambda parts=parts: charter(**parts), name="length")
                continue
            entry = PARTS[part][0]
            name = entry if part == "jobs" else entry[0]
            self.raises(Twice, lambda: charter(**{part: (entry, entry)}), name=name)

    def test_over_parts(self):
        names = {"bases": "length", "units": "mm", "devices": "caliper", "features": "bore", "roles": "gauge", "jobs": "fit"}
        for at, part in enumerate(ORDER[2:]):
            for before in ORDER[1:at + 2]:
                name = names[before]
                entry = name if part == "jobs" else exchanged(PARTS[part][0], 0, name)
                self.raises(Twice, lambda: charter(**{part: PARTS[part] + (entry,)}), name=name)

    def test_the_first_name_that_came_before(self):
        parts = {"roles": (("gauge", "length"), ("bore", "length")), "jobs": ("fit", "fit"), "procedures": (FITONE, FITONE)}
        self.raises(Twice, lambda: charter(**parts), name="bore")
        parts["roles"] = ()
        self.raises(Twice, lambda: charter(**parts), name="fit")
        parts["jobs"] = ("caliper",)
        self.raises(Twice, lambda: charter(**parts), name="caliper")
        parts["jobs"] = ()
        self.raises(Twice, lambda: charter(**parts), name="fitone")

    def test_parameters_lets_and_labels_are_free(self):
        body = (("let", "fit", ("size", "bore")), ("tell", "gauge", ("name", "fit"), "mm"), ("tell", "gauge", ("name", "fit"), "mm"))
        made = charter(procedures=(("work", (("bore", "length"),), (("caliper", "length"), ("work", "length")), body),))
        self.assertEqual(made["work"][3], body)


class Order(CharterCase):
    """Each fault is told ahead of all that come behind it."""

    LOOP = ("loop", (), (), (("call", "loop", (), ()),))
    LONG = ("long", (), (), (("repeat", 4, (("repeat", 4, (("repeat", 4, (("stop",), ("stop",))),)),)),))
    STRAY = ("stray", (), (), (("leave",),))

    def test_bad_parts_in_order(self):
        bad = {part: [None] for part in ORDER}
        for at, part in enumerate(ORDER):
            self.refused(part, -1 if part == "days" else 0, **{other: bad[other] for other in ORDER[at:]})

    def test_the_first_place_of_a_part(self):
        self.refused("jobs", 2, jobs=["a", "b", 3, 4])
        self.refused("features", 1, features=(BORE, feature("Bore"), ()))

    def test_all_errors_in_order(self):
        parts = dict(days=19, jobs=("fit", "Fit"), roles=[("r" + letter, "length") for letter in LETTERS[:7]])
        parts["procedures"] = (self.LOOP, self.LONG, self.STRAY)
        self.refused("jobs", 1, **parts)
        parts["jobs"] = ("fit", "fit")
        self.raises(TooMany, lambda: charter(**parts), kind="roles")
        parts["roles"] = ()
        self.raises(Twice, lambda: charter(**parts), name="fit")
        parts["jobs"] = ()
        self.raises(BadStep, lambda: charter(**parts), procedure="stray", step=0, kind="stray", about="leave")
        parts["procedures"] = (self.LONG, self.LOOP)
        self.raises(Ring, lambda: charter(**parts), name="loop")
        parts["procedures"] = (EMPTY, self.LONG)
        self.raises(TooLong, lambda: charter(**parts), name="long")
        parts["procedures"] = (EMPTY,)
        self.assertEqual(charter(**parts).procedures, (EMPTY,))


class Reading(CharterCase):
    def test_attributes_and_rows(self):
        for kind in (tuple, list):
            parts = {part: kind(row) if part != "days" else row for part, row in PARTS.items()}
            made = Charter(**parts)
            self.assertEqual(made.days, 5)
            for part in ORDER[1:]:
                self.assertEqual(getattr(made, part), PARTS[part])
                self.assertIs(type(getattr(made, part)), tuple)

    def test_parts_that_are_left_out_are_empty(self):
        made = Charter(days=1, bases=["length"])
        self.assertEqual([getattr(made, part) for part in ORDER], [1, ("length",), (), (), (), (), (), ()])
        self.assertEqual(len(made), 0)
        self.assertEqual(list(made), [])
        self.assertEqual(made.all_spots(), (("ground", 0, 0),))
        self.assertEqual(made.own_links(), ())

    def test_parts_are_passed_by_keyword(self):
        with self.assertRaises(TypeError):
            Charter(5, ("length",))

    def test_rows_that_are_changed_behind(self):
        parts = {part: list(row) if part != "days" else row for part, row in PARTS.items()}
        made = Charter(**parts)
        for part in ORDER[1:]:
            parts[part].append(None)
            parts[part][0] = None
        self.assertEqual(made, charter())
        self.assertEqual(made["bore"], BORE)
        self.assertEqual(len(made.own_links()), len(charter().own_links()))

    def test_entries(self):
        made = charter()
        self.assertEqual(made["caliper"], CALIPER)
        self.assertEqual(made["bore"], BORE)
        self.assertEqual(made["gauge"], ("gauge", "length"))
        self.assertEqual(made["fitone"], FITONE)
        for name in ("caliper", "bore", "gauge", "fitone"):
            self.assertIs(name in made, True)
        for name in ("fit", "mm", "length", "hole", "tool", "ground", "nobody", "", None, 0, True, ["bore"], BORE):
            self.assertIs(name in made, False, name)
            self.raises(Unknown, lambda name=name: made[name], name=name)

    def test_iteration_and_len(self):
        made = charter(devices=(CALIPER, device()), features=(feature(), BORE))
        self.assertEqual(list(made), ["caliper", "dial", "slot", "bore"])
        self.assertEqual(len(made), 4)
        self.assertEqual(len(charter()), 2)

    def test_sort_of(self):
        made = charter()
        for name, sort in (
            ("caliper", "device"), ("bore", "feature"), ("gauge", "role"), ("fit", "job"), ("fitone", "procedure"), ("mm", "unit"),
            ("length", "base"), ("hole", None), ("ground", None), ("nobody", None), ("", None), (None, None), (0, None), (True, None),
            (["bore"], None), (BORE, None),
        ):
            self.assertEqual(made.sort_of(name), sort, name)

    def test_base_of(self):
        made = charter(bases=("length", "time"), units=(), procedures=(("work", (), (), ()),), features=(BORE, feature("beat", "time")))
        for name, base in (("caliper", "length"), ("bore", "length"), ("gauge", "length"), ("beat", "time")):
            self.assertEqual(made.base_of(name), base)
        for name in ("fit", "work", "length", "time", "mm", "ground", "", None, 0, ["bore"]):
            self.raises(Unknown, lambda name=name: made.base_of(name), name=name)

    def test_system(self):
        self.assertEqual(charter().system(), Units(("length",), (MM,)))
        self.assertEqual(list(charter().system()), ["length", "mm"])

    def test_equal(self):
        made = charter()
        self.assertEqual(made, charter())
        self.assertEqual(made, Charter(**{part: list(row) if part != "days" else row for part, row in PARTS.items()}))
        others = {
            "days": 4, "bases": ("length", "time"), "units": (("mm", (1,), (1001, 1)),), "devices": (exchanged(CALIPER, 11, (4,)),),
            "features": (exchanged(BORE, 2, 499),), "roles": (("gage", "length"),), "jobs": ("fits",),
            "procedures": (FITONE[:3] + (FITONE[3][:1],),),
        }
        for part, row in others.items():
            parts = {part: row}
            if part == "bases":
                parts["units"] = (("mm", (1, 0), (1000, 1)),)
            self.assertNotEqual(made, charter(**parts), part)
        self.assertNotEqual(Charter(days=1, bases=("length",)), Charter(days=1, bases=("length", "time")))
        self.assertNotEqual(Charter(days=1, bases=("time", "length")), Charter(days=1, bases=("length", "time")))
        for thing in (None, 1, PARTS, tuple(made), "charter"):
            self.assertIs(made == thing, False)


class Changing(CharterCase):
    def test_changed(self):
        made = charter()
        changed = made.changed(days=3, jobs=["make", "fit"])
        self.assertIsInstance(changed, Charter)
        self.assertEqual(changed, charter(days=3, jobs=("make", "fit")))
        self.assertEqual(made, charter())
        self.assertEqual(made.changed(), made)
        for part, row in (("units", ()), ("devices", (device(),)), ("features", ()), ("roles", ()), ("procedures", (EMPTY,))):
            parts = {"procedures": (EMPTY,), part: row}
            self.assertEqual(made.changed(**parts), charter(**parts))
        bases = made.changed(bases=("length", "time"), units=(), procedures=())
        self.assertEqual(bases.bases, ("length", "time"))

    def test_changed_is_judged(self):
        made = charter()
        self.raises(BadCharter, lambda: made.changed(days=0), part="days", place=-1)
        self.raises(BadCharter, lambda: made.changed(bases=("time",), units=()), part="devices", place=0)
        self.raises(Twice, lambda: made.changed(jobs=("bore",)), name="bore")
        self.assertEqual(made, charter())


if __name__ == "__main__":
    unittest.main()
