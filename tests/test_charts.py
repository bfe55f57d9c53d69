"""[43] charts, and the marks that part two charts; [44] pruned charts, and the marks that are kept; [45] dangers."""

import itertools
import random
import time
import unittest

from ellwarden.books import Book
from ellwarden.cards import pressed
from ellwarden.charts import behind, chart_of, danger, kept_marks, parting_marks, pruned
from ellwarden.errors import Clash, TooMany
from ellwarden.marks import marks_in
from ellwarden.slips import Slip, slip_of
from ellwarden.webs import Web
from ellwarden.worlds import GROUND
from samples import STRANGE, device, feature, grains, house, procedure, sized
from test_runs import ONE, READ, STOP, TWO, RunCase, choose, judge, tell

CLASH = ("clash",)
BORE, SLOT = ("read", "bore", "dial"), ("read", "slot", "dial")
TOO = ("read", "two", "tool")


def end(*verdicts, kind="done"):
    return ("end", kind, verdicts)


PASSED, FAILED, OPEN = [end(("x", word)) for word in ("passed", "failed", "open")]


def plain_chart(slip, marks=()):
    """As it is told."""
    run = slip(marks)
    if run.kind == "clash":
        return CLASH
    if run.kind != "asks":
        return end(*[row[1:] for row in run.rows if row[0] == "judged"], kind=run.kind)
    device = slip.charter[run.asked[1]]
    spans = []
    for mark in range(device[2], device[3] + 1):
        further = plain_chart(slip, marks + (mark,))
        if spans and spans[-1][2] == further:
            spans[-1] = (spans[-1][0], mark, further)
        else:
            spans.append((mark, mark, further))
    return ("read", *run.asked, tuple(spans))


def rows_of(chart, marks=()):
    """All rows of single marks that lead to an end or a clash, with what they lead to."""
    if chart[0] != "read":
        return [(marks, chart)]
    return [found for first, last, further in chart[3] for mark in range(first, last + 1) for found in rows_of(further, marks + (mark,))]


class ChartCase(RunCase):
    def chart(self, *body, **parts):
        """The chart of a slip, which is also that of the pressed slip."""
        slip = self.slip(*body, **parts)
        found = chart_of(slip)
        self.is_chart(slip.charter, found)
        self.assertEqual(found, plain_chart(slip))
        self.assertEqual(chart_of(pressed(slip)), found)
        return found

    def is_chart(self, charter, chart):
        """The form of a chart."""
        self.assertIs(type(chart), tuple)
        if chart[0] == "read":
            _, name, tool, spans = chart
            self.assertEqual((charter.sort_of(name), charter.sort_of(tool), type(spans)), ("feature", "device", tuple))
            self.assertEqual((spans[0][0], spans[-1][1]), charter[tool][2:4])
            for (_, last, further), (first, _, beside) in zip(spans, spans[1:]):
                self.assertEqual(first, last + 1)
                self.assertNotEqual(further, beside)
            for first, last, further in spans:
                self.assertLessEqual(first, last)
                self.is_chart(charter, further)
        elif chart[0] == "end":
            _, kind, verdicts = chart
            self.assertIn(kind, ("done", "nobody", "nought"))
            self.assertIs(type(verdicts), tuple)
            self.assertEqual([len(pair) for pair in verdicts], [2] * len(verdicts))
        else:
            self.assertEqual(chart, CLASH)


class Charts(ChartCase):
    def test_no_reading(self):
        self.assertEqual(self.chart(), end())
        self.assertEqual(self.chart(tell("x")), end())
        self.assertEqual(self.chart(judge("x", 100, 101)), PASSED)
        self.assertEqual(self.chart(judge("x", 50, 60), judge("y", 101, 100), judge("x", -1, -2)), end(("x", "open"), ("y", "failed"), ("x", "passed")))

    def test_one_reading_with_spans_that_are_joined_and_that_are_not(self):
        # The mark m says from 10 m - 10 to 10 m + 10.
        self.assertEqual(self.chart(READ), BORE + (((0, 9, end()),),))
        chart = self.chart(READ, judge("x", 50, 60))
        self.assertEqual(chart, BORE + (((0, 4, PASSED), (5, 6, OPEN), (7, 9, FAILED)),))
        # The second verdict parts the spans further.
        chart = self.chart(READ, judge("x", 50, 60), judge("y", 20, 15))
        self.assertEqual([span[:2] for span in chart[3]], [(0, 0), (1, 2), (3, 4), (5, 6), (7, 9)])

    def test_two_readings_with_marks_that_clash_at_the_ends(self):
        chart = self.chart(READ, READ)
        for mark in range(10):
            low, high = max(mark - 2, 0), min(mark + 2, 9)
            spans = [(low, high, end())]
            if low > 0:
                spans.insert(0, (0, low - 1, CLASH))
            if high < 9:
                spans.append((high + 1, 9, CLASH))
            self.assertEqual(behind(chart, [mark]), BORE + (tuple(spans),))

    def test_marks_that_clash_between(self):
        # In the stretch of the marks 4 to 6 the dial shows 100 more, as no piece is large.
        tools = (device("dial", least=-100, greatest=100, steep=100, slack=55, cuts=(4, 7)), device("clock", "time"))
        charter = house(procedure(READ, judge("x", 70, 80)), devices=tools, features=(feature("bore", greatest=80), feature("slot"), feature("beat", "time")))
        links = list(charter.own_links())
        for stretch, offset in ((0, 0), (1, 100), (2, 0)):
            spot = ("dial", stretch, 1)
            links += [(GROUND, spot, offset, ("news", 0)), (spot, GROUND, -offset, ("news", 0))]
        slip = Slip(charter, "main", 1, ("bore", "slot", "beat"), ("dial", "clock"), Web(charter.all_spots(), links))
        found = chart_of(slip)
        self.assertEqual(found, BORE + (((0, 2, PASSED), (3, 3, OPEN), (4, 6, CLASH), (7, 9, OPEN)),))
        self.assertEqual(chart_of(pressed(slip)), found)
        self.assertEqual(plain_chart(slip), found)

    def test_three_readings(self):
        chart = self.chart(READ, choose((TOO,), (), (READ, TOO), good=30, bad=40), judge("x", 50, 60), judge("y", 50, 60, TWO))
        self.assertEqual(chart[:3], BORE)
        self.assertEqual([behind(chart, [mark])[:3] for mark in (0, 2)], [SLOT, SLOT])
        self.assertEqual(behind(chart, [3])[:3], BORE)
        self.assertEqual(behind(chart, [3, 4])[:3], SLOT)
        self.assertEqual(behind(chart, [3, 4, 9]), end(("x", "passed"), ("y", "failed")))
        self.assertEqual(behind(chart, [9]), end(("x", "failed"), ("y", "open")))

    def test_each_kind_of_end(self):
        ratio = ("over", ONE, TWO)
        self.assertEqual(self.chart(READ, judge("x", 50, 60), tell("y", ratio, "1"), judge("z", 1, 2)), BORE + (((0, 4, end(("x", "passed"), kind="nought")), (5, 6, end(("x", "open"), kind="nought")), (7, 9, end(("x", "failed"), kind="nought"))),))
        self.assertEqual(self.chart(judge("x", 100, 101), READ, devices=("nobody", "clock")), end(("x", "passed"), kind="nobody"))
        self.assertEqual(self.chart(READ, ("read", "beat", "timer"), devices=("dial", "nobody")), BORE + (((0, 9, end(kind="nobody")),),))

    def test_ends_of_several_kinds(self):
        chart = self.chart(READ, choose((STOP,), (("read", "beat", "timer"),), (tell("r", ("over", ONE, TWO), "1"),), good=50, bad=60), devices=("dial", "nobody"))
        self.assertEqual(chart, BORE + (((0, 4, end()), (5, 6, end(kind="nought")), (7, 9, end(kind="nobody"))),))

    def test_calls_and_repeats(self):
        other = procedure(READ, judge("x", 50, 60), name="other", features=(("one", "length"),), roles=(("tool", "length"),))
        chart = self.chart(("repeat", 2, (("call", "other", ("two",), ("tool",)),)), others=(other,))
        self.assertEqual(chart[:3], SLOT)
        self.assertEqual(behind(chart, [4, 5]), end(("x", "passed"), ("x", "passed")))
        self.assertEqual(behind(chart, [5, 6]), end(("x", "open"), ("x", "open")))

    def test_the_slip_of_a_book(self):
        charter = house(("first", (("one", "length"),), (("tool", "length"),), (READ, judge("x", 50, 60))), jobs=("fit",))
        rows = [(0, ("stand", "gauge", "dial", 0, 2)), (0, ("edition", "fit", "first", 0, 2)), (0, ("cert", "dial", 0, 2, 0, 2, "ground", 0, 0, 0))]
        book = Book.of(charter, rows + [(1, ("strike", 0)), (1, ("strike", 2))])
        told = [chart_of(slip_of(book, "fit", 1, ["bore"], ["gauge"], moment)) for moment in (2, 3, 4, 5)]
        self.assertEqual(told[1], BORE + (((0, 4, PASSED), (5, 6, OPEN), (7, 9, FAILED)),))
        # Where the dial has no certificate, more is open; where nobody stands, nothing is read.
        self.assertNotEqual(told[0], told[1])
        self.assertEqual(told[2], end(kind="nobody"))
        self.assertEqual(told[3], told[2])

    def test_random_slips(self):
        rng = random.Random(43)
        for _ in range(12):
            body = [READ]
            for _ in range(rng.randint(0, 2)):
                good = rng.randint(0, 90)
                body.append(rng.choice((judge(rng.choice("xy"), good, good + rng.choice((-7, 5, 12)), rng.choice((ONE, TWO, ("minus", ONE, TWO)))), choose((TOO,), (STOP,), (READ,), good=good, bad=good + 15))))
            self.chart(*body)


class Counting(ChartCase):
    def slip_with(self, marks, readings, links=(), body=()):
        """A slip that takes several readings of one device with so many marks."""
        charter = house(procedure(*[READ] * readings, *body), devices=(device("dial", high=marks - 1, step=1, slack=1), device("clock", "time")), features=(feature("bore"), feature("slot"), feature("beat", "time")))
        return Slip(charter, "main", 1, ("bore", "slot", "beat"), ("dial", "clock"), Web(charter.all_spots(), charter.own_links()).more(links))

    def test_rows_that_clash_count(self):
        for marks, readings in ((10, 3), (40, 2), (60, 1), (6, 4), (13, 4)):
            slip = self.slip_with(marks, readings)
            # A clash ends a row, so the rows are not all as long as that.
            rows = self.count(slip, ())
            if rows > 1000:
                self.raises(TooMany, lambda: chart_of(slip), kind="mark")
                self.raises(TooMany, lambda: danger(slip), kind="mark")
            else:
                self.assertEqual(sum(1 for _ in rows_of(chart_of(slip))), rows)

    def count(self, slip, marks):
        run = slip(marks)
        if run.kind != "asks":
            return 1
        tool = slip.charter[run.asked[1]]
        return sum(self.count(slip, marks + (mark,)) for mark in range(tool[2], tool[3] + 1))

    def exact(self, first, second, third):
        """A slip with just so many rows: behind the low mark of a device with two marks come two
        readings, by devices with so many marks that tell nothing, and behind the high one another."""
        devices = [device("dial", high=1, step=100, slack=50, least=0, greatest=0)]
        devices += [device(name, high=many - 1, step=1, slack=1000) for name, many in (("ring", first), ("rule", second), ("rod", third))]
        one, two, three = [("read", "piece", name) for name in ("onex", "twox", "threex")]
        choice = ("choose", sized("piece"), grains(50), grains(51), (one, two), (three,), (three,))
        roles = tuple((name, "length") for name in ("tool", "onex", "twox", "threex"))
        charter = house(("main", (("piece", "length"),), roles, (("read", "piece", "tool"), choice)), devices=devices)
        return Slip(charter, "main", 1, ("bore",), ("dial", "ring", "rule", "rod"), Web(charter.all_spots(), charter.own_links()))

    def test_just_a_thousand_rows(self):
        for many, told in (((30, 32, 40), 1000), ((31, 32, 8), 1000), ((30, 32, 41), 1001), ((31, 32, 9), 1001)):
            slip = self.exact(*many)
            self.assertEqual(self.count(pressed(slip), ()), told)
            if told == 1000:
                self.assertEqual(len(rows_of(chart_of(slip))), 1000)
                self.assertIsNone(danger(slip))
            else:
                self.raises(TooMany, lambda: chart_of(slip), kind="mark")
                self.raises(TooMany, lambda: danger(slip), kind="mark")

    def test_a_clash_ahead_of_too_many(self):
        broken = [(GROUND, ("slot", 0, 2), -1, ("news", 0))]
        slip = self.slip_with(60, 3, broken)
        for call in (chart_of, danger):
            self.is_ring(slip.web, self.raises(Clash, lambda: call(slip)).ring)
            self.raises(TooMany, lambda: call(self.slip_with(60, 3)), kind="mark")

    def test_large_trees_are_left_soon(self):
        charter = house(procedure(*[READ] * 6), devices=(device("dial", high=59, step=1, slack=100), device("clock", "time")))
        slip = Slip(charter, "main", 1, ("bore", "slot", "beat"), ("dial", "clock"), Web(charter.all_spots(), charter.own_links()))
        start = time.time()
        self.raises(TooMany, lambda: chart_of(slip), kind="mark")
        self.assertLess(time.time() - start, 10)


A, B, C = end(("x", "passed")), end(("x", "failed")), end(("y", "open"))


def read(*spans, name="bore", tool="dial"):
    return ("read", name, tool, spans)


# Three readings deep, with a clash at several places.
DEEP = read((0, 2, read((0, 4, A), (5, 9, CLASH), name="slot")), (3, 5, CLASH), (6, 9, read((0, 3, B), (4, 9, read((-5, 0, A), (1, 3, C), tool="ring")))))


class Behind(ChartCase):
    def test_rows_of_marks(self):
        self.assertEqual(behind(DEEP, ()), DEEP)
        self.assertEqual(behind(DEEP, []), DEEP)
        for marks, told in (
            ((0,), DEEP[3][0][2]), ((2,), DEEP[3][0][2]), ((3,), CLASH), ((5,), CLASH), ((9,), DEEP[3][2][2]), ((1, 4), A), ((1, 5), CLASH), ((6, 0), B), ((6, 9, -5), A), ((6, 9, 0), A),
            ((7, 4, 3), C),
        ):
            self.assertEqual(behind(DEEP, marks), told)
            self.assertEqual(behind(DEEP, list(marks)), told)

    def test_marks_that_are_not_there(self):
        for mark in (-1, 10, 1000, "1", 1.0) + STRANGE:
            for ahead in ((), (0,), (6,)):
                self.assertIsNone(behind(DEEP, ahead + (mark,)))
                self.assertIsNone(behind(DEEP, ahead + (mark, 0)))
        self.assertIsNone(behind(DEEP, (6, 9, -6)))
        self.assertIsNone(behind(DEEP, (6, 9, 4)))

    def test_more_marks_than_readings(self):
        for marks in ((3, 0), (1, 4, 0), (6, 0, 0), (6, 9, 0, 0), (1, 5, 5), (1, 4, 0, 0, 0)):
            self.assertIsNone(behind(DEEP, marks))
        for chart in (A, CLASH):
            self.assertEqual(behind(chart, ()), chart)
            self.assertIsNone(behind(chart, (0,)))

    def test_a_slip(self):
        chart = self.chart(READ, READ, judge("x", 50, 60))
        for first in range(10):
            for second in range(10):
                run = self.slip(READ, READ, judge("x", 50, 60))([first, second])
                told = CLASH if run.kind == "clash" else end(run.rows[0][1:])
                self.assertEqual(behind(chart, [first, second]), told)


def alike(chart, other):
    if chart[0] == "read" and other[0] == "read":
        return chart[1:3] == other[1:3] and (chart[3][0][0], chart[3][-1][1]) == (other[3][0][0], other[3][-1][1])
    return chart == other


def all_rows(chart):
    """All rows of marks that are there, by length, then as tuples."""
    rows = {marks[:many] for marks, _ in rows_of(chart) for many in range(len(marks) + 1)}
    return sorted(rows, key=lambda row: (len(row), row))


class Parting(ChartCase):
    def part(self, chart, other, marks):
        for first, second in ((chart, other), (other, chart)):
            self.assertEqual(parting_marks(first, second), marks)
        rows = [row for row in all_rows(chart) if behind(other, row) is not None and not alike(behind(chart, row), behind(other, row))]
        self.assertEqual(rows[0] if rows else None, marks)

    def test_equal_charts(self):
        for chart in (A, CLASH, DEEP, read((0, 9, A))):
            self.part(chart, chart, None)
            self.assertIsNone(parting_marks(chart, eval(repr(chart))))

    def test_no_marks(self):
        for chart, other in (
            (A, B), (A, CLASH), (A, read((0, 9, A))), (CLASH, DEEP), (read((0, 9, A)), read((0, 9, A), name="slot")), (read((0, 9, A)), read((0, 9, A), tool="ring")),
            (read((0, 9, A)), read((0, 8, A))), (read((0, 9, A)), read((1, 9, A))), (end(), end(kind="nought")), (end(), end(kind="nobody")), (A, end(("x", "open"))), (A, end(("y", "passed"))),
        ):
            self.part(chart, other, ())

    def test_the_least_row(self):
        self.part(read((0, 4, A), (5, 9, B)), read((0, 5, A), (6, 9, B)), (5,))
        self.part(read((0, 4, A), (5, 9, B)), read((0, 2, A), (3, 9, B)), (3,))
        self.part(read((-3, 4, A), (5, 9, B)), read((-3, 4, B), (5, 9, A)), (-3,))
        self.part(read((0, 4, A), (5, 9, B)), read((0, 4, A), (5, 9, CLASH)), (5,))
        self.part(read((0, 4, A), (5, 7, B), (8, 9, A)), read((0, 4, A), (5, 9, B)), (8,))

    def test_by_length_first(self):
        # Behind the mark 0 they part at a second mark only, behind 9 at once.
        inner = [read((0, 4, A), (5, 9, B)), read((0, 6, A), (7, 9, B))]
        self.part(read((0, 8, inner[0]), (9, 9, A)), read((0, 8, inner[1]), (9, 9, B)), (9,))
        self.part(read((0, 8, inner[0]), (9, 9, A)), read((0, 8, inner[1]), (9, 9, A)), (0, 5))
        self.part(read((0, 2, A), (3, 8, inner[0]), (9, 9, A)), read((0, 2, A), (3, 8, inner[1]), (9, 9, A)), (3, 5))
        # Behind 2 at the mark 5, behind 3 at a lesser one.
        other = read((0, 3, A), (4, 9, B))
        self.part(read((0, 2, inner[0]), (3, 9, inner[0])), read((0, 2, inner[1]), (3, 9, other)), (0, 5))
        self.part(read((0, 2, A), (3, 9, inner[0])), read((0, 2, A), (3, 5, inner[0]), (6, 9, other)), (6, 4))

    def test_deep_charts(self):
        changed = eval(repr(DEEP).replace("(-5, 0,", "(-5, 1,").replace("(1, 3, ('end', 'done', (('y'", "(2, 3, ('end', 'done', (('y'"))
        self.part(DEEP, changed, (6, 4, 1))

    def test_charts_of_slips(self):
        rng = random.Random(44)
        charts = []
        for _ in range(14):
            good = rng.choice((30, 50))
            body = [READ, rng.choice((judge("x", good, good + 10), choose((TOO,), (STOP,), (READ,), good=good, bad=good + 20))), judge("x", rng.choice((50, 40)), 60)]
            charts.append(chart_of(self.slip(*body)))
        parted = set()
        for chart, other in itertools.combinations(charts, 2):
            found = parting_marks(chart, other)
            self.part(chart, other, found)
            parted.add(found if found is None else len(found))
        self.assertGreater(len(parted), 2)


class Pruning(ChartCase):
    def test_charts_without_needless_readings(self):
        for chart in (A, CLASH, read((0, 4, A), (5, 9, B)), read((0, 4, A), (5, 6, CLASH), (7, 9, B)), DEEP[3][2][2], read((0, 9, CLASH))):
            self.assertEqual(pruned(chart), chart)

    def test_needless_readings(self):
        for chart in (read((0, 9, A)), read((0, 4, A), (5, 9, CLASH)), read((0, 1, CLASH), (2, 4, A), (5, 9, CLASH)), read((0, 1, A), (2, 4, CLASH), (5, 9, A)), read((0, 1, read((0, 9, A))), (2, 9, A))):
            self.assertEqual(pruned(chart), A)

    def test_spans_that_become_equal_one_after_the_other(self):
        inner = read((0, 4, A), (5, 9, CLASH), name="slot")
        # The inner reading is needless, then the spans beside it are equal.
        self.assertEqual(pruned(read((0, 2, inner), (3, 5, A), (6, 9, B))), read((0, 5, A), (6, 9, B)))
        self.assertEqual(pruned(read((0, 2, inner), (3, 5, CLASH), (6, 7, A), (8, 9, B))), read((0, 2, A), (3, 5, CLASH), (6, 7, A), (8, 9, B)))
        # Then the outer one is needless as well.
        self.assertEqual(pruned(read((0, 2, inner), (3, 5, A), (6, 9, CLASH))), A)
        self.assertEqual(pruned(read((0, 2, inner), (3, 9, read((0, 3, inner), (4, 9, A))))), A)
        deep = read((0, 2, read((0, 4, A), (5, 9, B))), (3, 9, read((0, 4, read((0, 9, A), tool="ring")), (5, 9, read((0, 1, CLASH), (2, 9, B), tool="ring")))))
        self.assertEqual(pruned(deep), read((0, 4, A), (5, 9, B)))
        self.assertEqual(pruned(DEEP), read((0, 2, A), (3, 5, CLASH), (6, 9, DEEP[3][2][2])))

    def test_slips(self):
        # What the second reading tells is of no use for the first piece.
        chart = self.chart(READ, TOO, judge("x", 50, 60))
        self.assertEqual(pruned(chart), BORE + (((0, 4, PASSED), (5, 6, OPEN), (7, 9, FAILED)),))
        self.assertEqual(pruned(self.chart(TOO, READ, judge("x", 50, 60))), BORE + (((0, 4, PASSED), (5, 6, OPEN), (7, 9, FAILED)),))
        self.assertEqual(pruned(self.chart(READ, READ, READ)), end())

    def test_kept_marks(self):
        chart = self.chart(TOO, READ, judge("x", 50, 60))
        self.assertEqual(kept_marks(chart, (3, 5)), (5,))
        self.assertEqual(kept_marks(chart, [9, 0]), (0,))
        self.assertEqual(kept_marks(read((0, 9, A)), (4,)), ())
        self.assertEqual(kept_marks(A, ()), ())
        self.assertEqual(kept_marks(DEEP, (1, 4)), (1,))
        self.assertEqual(kept_marks(DEEP, (7, 3)), (7, 3))
        self.assertEqual(kept_marks(DEEP, (7, 9, 1)), (7, 9, 1))
        self.assertIs(type(kept_marks(DEEP, [7, 3])), tuple)

    def test_verdicts_by_the_kept_marks(self):
        rng = random.Random(45)
        for _ in range(6):
            good = rng.randint(10, 80)
            body = rng.sample([READ, TOO, READ], 2) + [choose((TOO,), (), (READ,), good=good, bad=good + 20), judge("x", good, good + 10, rng.choice((ONE, TWO))), judge("y", 50, 60, rng.choice((ONE, TWO)))]
            slip = self.slip(*body)
            try:
                chart = chart_of(slip)
            except TooMany:
                continue
            less = pruned(chart)
            self.assertEqual(pruned(less), less)
            for marks, found in rows_of(chart):
                if found != CLASH:
                    self.assertEqual(behind(less, kept_marks(chart, marks)), found)
            # No reading is needless any more.
            ahead = [less]
            while ahead:
                one = ahead.pop()
                if one[0] == "read":
                    self.assertGreater(len({further for _, _, further in one[3]} - {CLASH}), 1)
                    ahead += [further for _, _, further in one[3]]

    def test_marks_that_worlds_let_the_devices_show(self):
        rng = random.Random(46)
        slip = self.slip(READ, TOO, READ, judge("x", 50, 60), judge("y", 30, 20))
        chart = chart_of(slip)
        for _ in range(40):
            links = []
            for spot in (("bore", 0, 1), ("slot", 0, 1)):
                value = rng.randint(0, 100)
                links += [(GROUND, spot, value, ("news", 0)), (spot, GROUND, -value, ("news", 0))]
            world = slip.web.more(links).highest()
            rows = [marks_in(world, slip.charter["dial"], name, 1) for name in ("bore", "slot", "bore")]
            for marks in itertools.product(*rows):
                found = behind(chart, marks)
                self.assertEqual(found[0], "end")
                self.assertEqual(behind(pruned(chart), kept_marks(chart, marks)), found)


class Dangers(ChartCase):
    def danger(self, *body, **parts):
        """The least danger, as all rows tell."""
        slip = self.slip(*body, **parts)
        found = danger(slip)
        rows = []
        for marks, chart in rows_of(plain_chart(slip)):
            run = slip(marks)
            if run.kind == "nought" or (run.kind == "done" and any(row[-1] == "open" for row in run.rows if row[0] == "judged")):
                rows.append(marks)
        self.assertEqual(found, min(rows, key=lambda row: (len(row), row)) if rows else None)
        self.assertEqual(danger(pressed(slip)), found)
        return found

    def test_open_verdicts(self):
        self.assertEqual(self.danger(READ, judge("x", 50, 60)), (5,))
        self.assertEqual(self.danger(READ, judge("y", 100, 101), judge("x", 50, 60)), (5,))
        self.assertEqual(self.danger(judge("x", 50, 60)), ())
        # The verdict was open once, though not at the end.
        self.assertEqual(self.danger(judge("x", 50, 60), READ), (0,))

    def test_nought(self):
        self.assertEqual(self.danger(READ, tell("x", ("over", TWO, ONE), "1")), (0,))
        self.assertEqual(self.danger(READ, tell("x", ("over", TWO, ("minus", ONE, grains(40))), "1")), (3,))
        self.assertEqual(self.danger(tell("x", ("over", ONE, TWO), "1")), ())

    def test_none(self):
        self.assertIsNone(self.danger(READ))
        self.assertIsNone(self.danger(READ, judge("x", 101, 102)))
        # An open verdict that is chosen by is no danger, nor one in a run that ends with nobody.
        self.assertIsNone(self.danger(READ, choose((), (), (STOP,), good=50, bad=60)))
        self.assertIsNone(self.danger(judge("x", 50, 60), ("read", "beat", "timer"), devices=("dial", "nobody")))
        self.assertIsNone(self.danger(READ, judge("x", 50, 60), ("read", "beat", "timer"), devices=("dial", "nobody")))

    def test_the_least_row(self):
        # By length first: a second reading behind the lesser marks, none behind the greater ones.
        body = (READ, choose((TOO, judge("y", 50, 60, TWO)), (judge("z", 95, 85),), (STOP,), good=60, bad=70))
        self.assertEqual(self.danger(*body), (9,))
        body = (READ, choose((TOO, judge("y", 50, 60, TWO)), (), (STOP,), good=60, bad=70))
        self.assertEqual(self.danger(*body), (0, 5))
        self.assertEqual(self.danger(READ, TOO, judge("x", 50, 60), judge("y", 20, 30, TWO)), (0, 2))

    def test_random_slips(self):
        rng = random.Random(47)
        found = set()
        for _ in range(8):
            good = rng.randint(0, 99)
            body = [READ, choose((TOO,), (STOP,), (tell("r", ("over", ONE, TWO), "1"),) if rng.random() < 0.5 else (), good=good, bad=good + 9), judge("x", good, good + 5, rng.choice((ONE, TWO)))]
            found.add(self.danger(*body))
        self.assertGreater(len(found), 3)


class Speed(ChartCase):
    def test_some_hundred_rows(self):
        body = [READ, TOO, READ]
        for label, expression in (("x", ONE), ("y", TWO), ("z", ("minus", ONE, TWO))):
            body += [judge(label, 40, 50, expression), tell("w", expression)]
        body.append(("judge", "p", ("times", ONE, TWO), ("times", grains(30), grains(40)), ("times", grains(30), grains(50))))
        slip = self.slip(*body)
        start = time.time()
        chart = chart_of(slip)
        self.assertGreater(len(rows_of(chart)), 500)
        self.assertIsNotNone(danger(slip))
        self.assertIsNone(parting_marks(pruned(chart), pruned(pruned(chart))))
        self.assertLess(time.time() - start, 15)


if __name__ == "__main__":
    unittest.main()
