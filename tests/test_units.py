"""[3], [4] units and unit texts; [5] amounts in a unit, and finer grains."""

import unittest
from fractions import Fraction

from ellwarden.amounts import Amount
from ellwarden.errors import BadTable, BadUnit, Mixed, TooMany, Twice, Unknown
from ellwarden.units import Units
from samples import Case

BASES = ("length", "time")
TABLE = (
    ("mm", (1, 0), (1000, 1)), ("s", (0, 1), (1, 60)), ("knot", (1, -1), (7, 2)), ("pure", (0, 0), (1, 100)),
    ("area", (2, 0), (3, 5)), ("peak", (9, 0), (2, 1)), ("deep", (-9, 0), (5, 1)),
)
UNITS = Units(BASES, TABLE)


def many_units(many):
    return [("unit" + "abcdefghijklmnop"[number], (1, 0), (number + 1, 1)) for number in range(many)]


class Making(Case):
    def refused(self, bases, table, place):
        self.raises(BadTable, lambda: Units(bases, table), place=place)

    def test_rows_are_lists_or_tuples(self):
        for bases in (BASES, list(BASES)):
            for table in (TABLE, list(TABLE)):
                units = Units(bases, table)
                self.assertEqual(units.bases, BASES)
                self.assertEqual(units.table, TABLE)
                self.assertIs(type(units.bases), tuple)
                self.assertIs(type(units.table), tuple)
        self.assertEqual(Units(["time"]).table, ())

    def test_bases_that_are_no_row_of_names(self):
        for bases in (
            None, "length", "abc", 3, {"length": 1}, [], (), ["length", "Time"], ["length", ""], ["length", "ground"],
            [("length",)], ["length", 1], [None], ["abcdefghijklm"], ("a", "b", "c", "d", "e"), True,
        ):
            self.refused(bases, (), -1)
            self.refused(bases, [None], -1)

    def test_1_to_4_bases(self):
        for many in range(1, 5):
            self.assertEqual(len(Units(["a", "b", "c", "d"][:many])), many)

    def test_tables_that_are_no_row(self):
        for table in (None, "mm", 3, {"mm": 1}, True):
            self.refused(BASES, table, -1)
            self.refused(("a", "a"), table, -1)

    def test_entries_that_are_none(self):
        for entry in (
            None, "mm", (), ("mm", (1, 0)), ("mm", (1, 0), (1, 1), 1), ["mm", (1, 0), (1, 1)], ("MM", (1, 0), (1, 1)),
            ("", (1, 0), (1, 1)), ("abcdefghijklm", (1, 0), (1, 1)), ("size", (1, 0), (1, 1)), (1, (1, 0), (1, 1)),
            ("mm", [1, 0], (1, 1)), ("mm", (1,), (1, 1)), ("mm", (1, 0, 0), (1, 1)), ("mm", (10, 0), (1, 1)),
            ("mm", (0, -10), (1, 1)), ("mm", (True, 0), (1, 1)), ("mm", "length", (1, 1)), ("mm", (1, 0), (0, 1)),
            ("mm", (1, 0), (-1, 1)), ("mm", (1, 0), (2, 2)), ("mm", (1, 0), 1), ("mm", (1, 0), [1, 1]), ("mm", (1, 0), "1"),
            ("mm", (1, 0), (True, 1)), ("mm", (1, 0), (10 ** 12, 1)), ("mm", (1, 0), (1, 10 ** 12)),
            ("mm", (1, 0), (10 ** 12 + 1, 10 ** 12)), 7,
        ):
            self.refused(BASES, [entry], 0)
            self.refused(BASES, [TABLE[1], entry, None], 1)

    def test_12_digits(self):
        most = 10 ** 12 - 1
        for factor in ((most, 1), (1, most), (most, most - 1)):
            self.assertEqual(Units(BASES, [("mm", (9, -9), factor)]).factor_of("mm"), factor)

    def test_12_and_13_units(self):
        self.assertEqual(Units.MOST, 12)
        self.assertEqual(len(Units(BASES, many_units(12))), 14)
        self.raises(TooMany, lambda: Units(BASES, many_units(13)), kind="units")

    def test_names_that_come_twice(self):
        self.raises(Twice, lambda: Units(("a", "a")), name="a")
        self.raises(Twice, lambda: Units(("a", "b", "b", "a")), name="b")
        self.raises(Twice, lambda: Units(BASES, [TABLE[0], ("time", (0, 1), (1, 1)), TABLE[0]]), name="time")
        self.raises(Twice, lambda: Units(BASES, [TABLE[0], TABLE[1], TABLE[0], TABLE[1]]), name="mm")

    def test_errors_in_their_order(self):
        self.refused(("a", "a"), [("mm", (1,), (1, 1))], 0)
        self.refused(BASES, many_units(13) + [None], 13)
        self.refused(BASES, many_units(12) + [("time", (0, 0), (2, 2))], 12)
        self.raises(TooMany, lambda: Units(("a", "a"), many_units(13)), kind="units")
        self.raises(TooMany, lambda: Units(BASES, many_units(12) + many_units(1)), kind="units")
        self.raises(TooMany, lambda: Units(BASES, [("time", (0, 1), (1, 1))] * 13), kind="units")

    def test_rows_that_are_changed_behind(self):
        bases, table = list(BASES), list(TABLE)
        units = Units(bases, table)
        bases[0] = "mass"
        table[0] = ("inch", (1, 0), (254, 10))
        table.append(("inch", (1, 0), (127, 5)))
        self.assertEqual(units, UNITS)
        self.assertEqual(list(units), list(UNITS))
        self.assertNotIn("inch", units)


class Reading(Case):
    def test_in_len_and_iteration(self):
        names = ["length", "time", "mm", "s", "knot", "pure", "area", "peak", "deep"]
        self.assertEqual(list(UNITS), names)
        self.assertEqual(len(UNITS), 9)
        for name in names:
            self.assertIs(name in UNITS, True)
        for thing in ("m", "", None, 0, True, ["mm"], ("mm", (1, 0), (1000, 1)), "mm^2"):
            self.assertIs(thing in UNITS, False)

    def test_equal(self):
        self.assertEqual(UNITS, Units(list(BASES), list(TABLE)))
        self.assertNotEqual(UNITS, Units(BASES, TABLE[:-1]))
        self.assertNotEqual(UNITS, Units(BASES, TABLE[::-1]))
        self.assertNotEqual(UNITS, Units(("length", "mass"), TABLE))
        self.assertNotEqual(Units(("a", "b")), Units(("b", "a")))
        for thing in (None, 1, TABLE, (BASES, TABLE), list(UNITS)):
            self.assertIs(UNITS == thing, False)


class Texts(Case):
    GOOD = (
        ("mm", (1, 0), Fraction(1000)), ("length", (1, 0), Fraction(1)), ("time", (0, 1), Fraction(1)), ("1", (0, 0), Fraction(1)),
        ("s", (0, 1), Fraction(1, 60)), ("mm*s", (1, 1), Fraction(1000, 60)), ("mm/s", (1, -1), Fraction(60000)),
        ("mm^2/s^2", (2, -2), Fraction(1000 * 1000 * 3600)), ("mm/s*s^-1", (1, -2), Fraction(1000 * 3600)),
        ("1/mm", (-1, 0), Fraction(1, 1000)), ("knot^3", (3, -3), Fraction(343, 8)), ("length*mm^-1", (0, 0), Fraction(1, 1000)),
        ("pure^9", (0, 0), Fraction(1, 10 ** 18)), ("area/mm", (1, 0), Fraction(3, 5000)), ("mm/mm", (0, 0), Fraction(1)),
        ("length^9", (9, 0), Fraction(1)), ("peak", (9, 0), Fraction(2)), ("peak*mm/mm", (9, 0), Fraction(2)),
        ("peak*peak/peak", (9, 0), Fraction(2)), ("peak*deep", (0, 0), Fraction(10)), ("peak^9*deep^9", (0, 0), Fraction(10 ** 9)),
        ("peak*area/mm^2", (9, 0), Fraction(6, 5 * 10 ** 6)), ("area^9/mm^9", (9, 0), Fraction(3 ** 9, 5 ** 9 * 10 ** 27)),
        ("1/area^4/mm", (-9, 0), Fraction(625, 81000)), ("knot^9", (9, -9), Fraction(7 ** 9, 2 ** 9)),
    )

    def test_dimensions_and_factors(self):
        for text, dimension, factor in self.GOOD:
            self.assertEqual(UNITS.dimension_of(text), dimension, text)
            self.assertIs(type(UNITS.dimension_of(text)), tuple)
            self.assertEqual(UNITS.factor_of(text), (factor.numerator, factor.denominator), text)

    def test_texts_that_are_none(self):
        for text in (
            "", "m", "mm ", " mm", "mm*", "mm//s", "mm^0", "mm^10", "mm^01", "mm*1", "MM", "ground", "mm^5*mm^5", None, 5, True,
            ("mm",), ["mm"], "bore", "1/1",
        ):
            for call in (UNITS.dimension_of, UNITS.factor_of, UNITS.one_form):
                self.raises(BadUnit, lambda call=call, text=text: call(text), text=text)

    def test_exponents_of_the_whole_beyond_9(self):
        for text in (
            "peak*mm", "peak^2", "deep/mm", "1/peak/mm", "area^5", "length^9*mm", "knot^9/time", "knot^9*mm", "s^3/knot^9",
            "area^4*mm^2", "deep^2",
        ):
            for call in (UNITS.dimension_of, UNITS.factor_of, UNITS.one_form):
                self.raises(BadUnit, lambda call=call, text=text: call(text), text=text)
            self.raises(BadUnit, lambda text=text: UNITS.amount((1, 1), text), text=text)
        self.assertEqual(UNITS.dimension_of("1/knot^9"), (-9, 9))

    def test_200_signs_and_201(self):
        text = "mm/mm" + "*mm/mm" * 32 + "*s"
        self.assertEqual(UNITS.dimension_of(text), (0, 1))
        longer = text + "/s"
        self.assertEqual(len(longer), 201)
        self.raises(BadUnit, lambda: UNITS.dimension_of(longer), text=longer)

    def test_one_form(self):
        for text, form in (
            ("mm", "mm"), ("1", "1"), ("mm/s*s^-1", "mm/s^2"), ("s*mm", "mm*s"), ("time*length", "length*time"), ("mm/mm", "1"),
            ("s/mm/area", "s/area/mm"), ("1/s^-2", "s^2"), ("knot*area*mm*knot", "area*knot^2*mm"), ("1/time/length", "1/length/time"),
            ("s*time*mm*length", "length*mm*s*time"), ("peak*peak/peak", "peak"), ("length*mm/s/time", "length*mm/s/time"),
        ):
            self.assertEqual(UNITS.one_form(text), form)
            self.assertEqual(UNITS.one_form(form), form)
            self.assertEqual(UNITS.factor_of(form), UNITS.factor_of(text))


class Amounts(Case):
    def test_amount(self):
        made = UNITS.amount((6, 5), "mm")
        self.assertIsInstance(made, Amount)
        self.assertEqual(made, Amount((1200, 1), (1, 0)))
        self.assertEqual(UNITS.amount((-1, 3), "1/s"), Amount((-20, 1), (0, -1)))
        self.assertEqual(UNITS.amount((0, 1), "knot"), Amount((0, 1), (1, -1)))
        self.assertEqual(UNITS.amount((5, 7), "length"), Amount((5, 7), (1, 0)))
        self.assertEqual(UNITS.amount((5, 7), "1"), Amount.bare((5, 7), 2))
        self.raises(BadUnit, lambda: UNITS.amount((1, 1), "m"), text="m")

    def test_number_in(self):
        self.assertEqual(UNITS.number_in(Amount((1200, 1), (1, 0)), "mm"), (6, 5))
        self.assertEqual(UNITS.number_in(Amount((1200, 1), (1, 0)), "length"), (1200, 1))
        self.assertEqual(UNITS.number_in(Amount((7, 1), (1, -1)), "knot"), (2, 1))
        self.assertEqual(UNITS.number_in(Amount.bare((1, 2), 2), "pure"), (50, 1))
        for number in ((0, 1), (-7, 3), (10 ** 30, 7)):
            for text in ("mm", "s^2", "knot/mm", "1"):
                self.assertEqual(UNITS.number_in(UNITS.amount(number, text), text), number)

    def test_bad_unit_ahead_of_mixed(self):
        amount = Amount((1, 1), (1, 0))
        self.raises(BadUnit, lambda: UNITS.number_in(amount, "m"), text="m")
        self.raises(BadUnit, lambda: UNITS.number_in(Amount((1, 1), (3, 0)), "peak*mm"), text="peak*mm")
        self.raises(Mixed, lambda: UNITS.number_in(amount, "s"), left=(1, 0), right=(0, 1))
        self.raises(Mixed, lambda: UNITS.number_in(amount, "mm/s"), left=(1, 0), right=(1, -1))


class Finer(Case):
    def test_factors(self):
        finer = UNITS.finer("length", 10)
        self.assertIsInstance(finer, Units)
        self.assertEqual(finer.bases, BASES)
        self.assertEqual([entry[0] for entry in finer.table], [entry[0] for entry in TABLE])
        self.assertEqual([entry[1] for entry in finer.table], [entry[1] for entry in TABLE])
        self.assertEqual(
            [entry[2] for entry in finer.table],
            [(10000, 1), (1, 60), (35, 1), (1, 100), (60, 1), (2 * 10 ** 9, 1), (1, 2 * 10 ** 8)],
        )
        self.assertEqual(finer.factor_of("length"), (1, 1))
        self.assertEqual(UNITS.finer("time", 6).table[1:3], (("s", (0, 1), (1, 10)), ("knot", (1, -1), (7, 12))))
        self.assertEqual(UNITS.table, TABLE)

    def test_1_changes_nothing(self):
        self.assertEqual(UNITS.finer("length", 1), UNITS)
        self.assertEqual(UNITS.finer("time", 1), UNITS)

    def test_the_same_number_in_each_unit(self):
        for base, many in (("length", 1), ("length", 7), ("time", 60), ("time", 11)):
            finer = UNITS.finer(base, many)
            at = BASES.index(base)
            for text in ("mm", "s", "knot", "pure", "area", "mm/s", "mm^2*s^3", "knot/area^2", "1/s"):
                amount = Amount((22, 7), UNITS.dimension_of(text))
                longer = Fraction(22, 7) * Fraction(many) ** amount.dimension[at]
                behind = Amount((longer.numerator, longer.denominator), amount.dimension)
                self.assertEqual(finer.number_in(behind, text), UNITS.number_in(amount, text), text)

    def test_unknown_base(self):
        for name in ("mm", "mass", "", None, True, 0, ["length"]):
            self.raises(Unknown, lambda name=name: UNITS.finer(name, 2), name=name)

    def test_a_factor_that_becomes_too_long(self):
        most = 10 ** 12 - 1
        units = Units(("a",), [("x", (0,), (most, 1)), ("y", (1,), (most, 2)), ("z", (-1,), (1, most))])
        self.raises(BadTable, lambda: units.finer("a", 4), place=1)
        self.assertEqual(Units(("a",), units.table[:2]).finer("a", 2).table[1][2], (most, 1))
        self.raises(BadTable, lambda: units.finer("a", 2), place=2)
        self.raises(BadTable, lambda: Units(("a",), [("x", (2,), (1, 1))]).finer("a", 10 ** 6), place=0)
        self.assertEqual(Units(("a",), [("x", (2,), (1, 1))]).finer("a", 10 ** 6 - 1).table[0][2], ((10 ** 6 - 1) ** 2, 1))
        self.raises(BadTable, lambda: Units(("a",), [("x", (-3,), (1, 1))]).finer("a", 10 ** 4), place=0)


if __name__ == "__main__":
    unittest.main()
