"""[32] runs: reading, telling, judging, choosing, calling, repeating, and how a run ends; [33] claims and questions; [10], [23], [24], [26] as far as runs go through procedures."""

import random
import time
import unittest
from fractions import Fraction

from ellwarden.claims import denies, value_in
from ellwarden.ends import End
from ellwarden.errors import BadMark, Clash, NoRow
from ellwarden.expressions import quantity_of, readings
from ellwarden.forms import Form
from ellwarden.marks import marks_in, reading_links
from ellwarden.quantities import Verdict, ends, verdict
from ellwarden.runs import Run
from ellwarden.slips import Slip
from ellwarden.webs import Web
from ellwarden.worlds import GROUND
from brute import fraction, told
from samples import STRANGE, device, feature, grains, house, procedure, ratios, sized, spot_form
from test_ends import EndCase

ONE, TWO, BEAT = sized("one"), sized("two"), sized("beat")
TOOL = ("offset", "tool", 5)
READ = ("read", "one", "tool")
STOP, LEAVE = ("stop",), ("leave",)
FEATURES, DEVICES, ROLES = ("bore", "slot", "beat"), ("dial", "clock"), ("gauge", "timer")
X, Y = ("bore", 0, 1), ("slot", 0, 1)


def name(word):
    return ("name", word)


def let(word, expression):
    return ("let", word, expression)


def tell(label, expression=ONE, unit="length"):
    return ("tell", label, expression, unit)


def judge(label, good, bad, expression=ONE):
    return ("judge", label, expression, grains(good), grains(bad))


def choose(passed=(), failed=(), kept=(), good=40, bad=60, expression=ONE):
    return ("choose", expression, grains(good), grains(bad), passed, failed, kept)


def certified(charter, *names):
    """The web of a charter in which the offsets of some devices are 0."""
    links = list(charter.own_links())
    for spot in charter.all_spots():
        if spot[0] in names:
            links += [(GROUND, spot, 0, ("news", 0)), (spot, GROUND, 0, ("news", 0))]
    return Web(charter.all_spots(), links)


class RunCase(EndCase):
    """A reading m by the certified dial or ring says that a size is from 10 m - 10 to 10 m + 10,
    and one of mark 0 or 9 just the one or the other; all sizes are from 0 to 100."""

    def slip(self, *body, others=(), features=FEATURES, devices=DEVICES, roles=ROLES, **parts):
        charter = house(procedure(*body), *others, **parts)
        return Slip(charter, "main", 1, features, devices, certified(charter, "dial", "ring"), roles)

    def run_of(self, marks, *body, **parts):
        run = self.slip(*body, **parts)(marks)
        self.is_run(run)
        return run

    def is_run(self, run):
        """What each run has, whatever its kind."""
        self.assertIsInstance(run, Run)
        for row in (run.rows, run.reads, run.claims(), run.questions()):
            self.assertIs(type(row), tuple)
        self.assertEqual(run.used, len(run.reads))
        if run.kind == "clash":
            self.is_ring(run.web, run.ring)
        else:
            self.assertIsNone(run.ring)
            self.assertIsNone(run.web.bad_ring())
        self.assertEqual(run.asked is not None, run.kind == "asks")
        self.assertEqual(run.world is not None, run.kind == "nought")
        self.assertEqual(run.web.links[:len(run.slip.web)], run.slip.web.links)
        self.assertEqual(run.web.spots, run.slip.web.spots)

    def rows(self, marks, *body, kind="done", **parts):
        run = self.run_of(marks, *body, **parts)
        self.assertEqual(run.kind, kind)
        return run.rows

    def labels(self, marks, *body, **parts):
        return [row[1] for row in self.rows(marks, *body, **parts)]


class Reading(RunCase):
    def test_marks_one_after_the_other(self):
        run = self.run_of([5, 4], READ, ("read", "two", "tool"), tell("x"), tell("y", TWO))
        self.assertEqual((run.kind, run.used), ("done", 2))
        self.assertEqual(run.rows, (("told", "x", (40, 1), (60, 1), "length"), ("told", "y", (30, 1), (50, 1), "length")))
        self.assertEqual(run.reads, (("bore", "gauge", 5), ("slot", "gauge", 4)))

    def test_links_behind_those_of_the_slip(self):
        run = self.run_of((5, 9, 0), READ, ("read", "two", "tool"), ("read", "beat", "timer"))
        charter = run.slip.charter
        links = ()
        for place, (thing, piece, mark) in enumerate((("dial", "bore", 5), ("dial", "slot", 9), ("clock", "beat", 0))):
            links += reading_links(charter[thing], piece, 1, mark, ("mark", place))
        self.assertEqual(run.web, run.slip.web.more(links))
        self.assertEqual(len(links), 4)
        self.assertEqual(run.reads, (("bore", "gauge", 5), ("slot", "gauge", 9), ("beat", "timer", 0)))

    def test_low_and_high_marks(self):
        self.assertEqual(self.rows([0], READ, tell("x")), (("told", "x", (0, 1), (10, 1), "length"),))
        self.assertEqual(self.rows([9], READ, tell("x")), (("told", "x", (80, 1), (100, 1), "length"),))

    def test_several_marks_of_one_feature(self):
        self.assertEqual(self.rows([5, 6], READ, READ, tell("x")), (("told", "x", (50, 1), (60, 1), "length"),))
        self.assertEqual(self.rows([5, 7], READ, READ, tell("x")), (("told", "x", (60, 1), (60, 1), "length"),))

    def test_marks_left_over_are_not_looked_at(self):
        for marks in ([5], [5, 5], (5, None, "x"), [5, 99]):
            run = self.run_of(marks, READ)
            self.assertEqual((run.kind, run.used), ("done", 1))
        self.assertEqual(self.run_of([None], tell("x")).kind, "done")

    def test_asks(self):
        run = self.run_of([5], READ, tell("x"), ("read", "two", "tool"), tell("y"))
        self.assertEqual((run.kind, run.asked, run.used, len(run.rows)), ("asks", ("slot", "dial"), 1, 1))
        run = self.run_of([], ("read", "beat", "timer"))
        self.assertEqual((run.asked, run.reads), (("beat", "clock"), ()))

    def test_bad_marks(self):
        made = self.slip(READ, READ, ("read", "beat", "timer"))
        for mark in (-1, 10, 1000, "5") + STRANGE:
            for marks, place in (([mark], 0), ([mark, 99], 0), ([5, mark], 1), ((5, 5, mark), 2), ([5, mark, mark], 1)):
                self.raises(BadMark, lambda: made(marks), place=place)
                self.raises(BadMark, lambda: list(made.trace(marks)), place=place)
        self.assertEqual(made([5, 5, 9]).kind, "done")
        # Only the place that is reached.
        self.assertEqual(self.run_of([99], choose((READ,), (), (STOP,)), READ).kind, "done")

    def test_a_clash(self):
        run = self.run_of([5, 8, 4], READ, tell("x"), READ, tell("y"), READ)
        self.assertEqual((run.kind, run.used), ("clash", 2))
        self.assertEqual(run.reads, (("bore", "gauge", 5), ("bore", "gauge", 8)))
        self.assertEqual([row[1] for row in run.rows], ["x"])
        # At a clash the run ends, so no further mark is looked at.
        self.assertEqual(self.run_of([5, 8, None], READ, READ, READ).kind, "clash")

    def test_roles_that_are_not_told(self):
        run = self.run_of([5, 4], READ, ("read", "beat", "timer"), roles=None)
        self.assertEqual(run.reads, (("bore", "", 5), ("beat", "", 4)))

    def test_one_thing_for_two_parameters(self):
        run = self.run_of([5, 7], READ, ("read", "two", "tool"), tell("x"), tell("gap", ("minus", ONE, TWO)), features=("bore", "bore", "beat"))
        self.assertEqual(run.rows, (("told", "x", (60, 1), (60, 1), "length"), ("told", "gap", (0, 1), (0, 1), "length")))
        self.assertEqual([feature for feature, _, _ in run.reads], ["bore", "bore"])


class Nobody(RunCase):
    def test_at_a_reading(self):
        # Ahead of a mark that is lacking or bad.
        for marks in ([], [5], [None]):
            run = self.run_of(marks, tell("x"), READ, tell("y"), devices=("nobody", "clock"))
            self.assertEqual((run.kind, run.used, run.reads, len(run.rows)), ("nobody", 0, (), 1))
        self.assertEqual(self.run_of([5], READ, devices=("dial", "nobody")).kind, "done")

    def test_at_an_expression(self):
        gap = ("minus", ONE, TOOL)
        for statement in (tell("y", gap), ("judge", "y", gap, grains(1), grains(2)), choose((STOP,), (STOP,), (STOP,), expression=gap)):
            run = self.run_of([], tell("x"), statement, tell("z"), devices=("nobody", "clock"))
            self.assertEqual((run.kind, [row[1] for row in run.rows]), ("nobody", ["x"]))
            self.assertNotEqual(self.run_of([], statement).kind, "nobody")

    def test_looking_through_names(self):
        body = (let("a", TOOL), let("b", ("plus", ONE, name("a"))), let("c", ONE))
        self.assertEqual(self.labels([], *body, tell("x", name("c")), devices=("nobody", "clock")), ["x"])
        self.assertEqual(self.labels([], *body, tell("x"), tell("y", name("b")), tell("z"), kind="nobody", devices=("nobody", "clock")), ["x"])
        self.assertEqual(self.labels([], *body, tell("x"), judge("y", 1, 2, name("a")), kind="nobody", devices=("nobody", "clock")), ["x"])
        # It is there even where its factor is 0.
        self.assertEqual(self.rows([], tell("x", ("times", grains(0, "1"), TOOL)), kind="nobody", devices=("nobody", "clock")), ())
        self.assertEqual(self.rows([], tell("x", ("minus", TOOL, TOOL)), kind="nobody", devices=("nobody", "clock")), ())

    def test_ahead_of_nought(self):
        self.assertEqual(self.rows([], tell("x", ("over", ONE, TOOL), "1"), kind="nobody", devices=("nobody", "clock")), ())
        self.assertEqual(self.rows([], tell("x", ("over", TOOL, ("minus", ONE, ONE)), "1"), kind="nobody", devices=("nobody", "clock")), ())
        # What comes first ends the run.
        self.assertEqual(self.run_of([], tell("x", ("over", ONE, TWO), "1"), READ, devices=("nobody", "clock")).kind, "nought")


class Nought(RunCase):
    def test_each_statement(self):
        ratio = ("over", ONE, TWO)
        limits = grains(1, "1"), grains(2, "1")
        for statement in (tell("y", ratio, "1"), ("judge", "y", ratio, *limits), ("choose", ratio, *limits, (STOP,), (STOP,), (STOP,))):
            run = self.run_of([], tell("x"), let("r", ratio), statement, tell("z"))
            self.assertEqual((run.kind, [row[1] for row in run.rows]), ("nought", ["x"]))
            self.is_world(run.web, run.world)
            self.assertEqual(run.world[Y], (0, 1))
            run = self.run_of([5], ("read", "two", "tool"), statement)
            self.assertEqual(run.kind, "done")

    def test_a_let_ends_nothing(self):
        self.assertEqual(self.rows([], let("r", ("over", ONE, TWO))), ())

    def test_at_the_edge(self):
        # Mark 1 says that the size is from 0 to 20, mark 2 that it is from 10 to 30.
        ratio = tell("r", ("over", grains(30), ONE), "1")
        self.assertEqual(self.run_of([1], READ, ratio).kind, "nought")
        self.assertEqual(self.rows([2], READ, ratio), (("told", "r", (1, 1), (3, 1), "1"),))


class Telling(RunCase):
    def test_units(self):
        for unit, low, high in (("length", (40, 1), (60, 1)), ("mm", (4, 1), (6, 1)), ("mm^2/length", (2, 5), (3, 5)), ("length*ratio", (4000, 1), (6000, 1)), ("ratio*mm", (400, 1), (600, 1))):
            self.assertEqual(self.rows([5], READ, tell("x", ONE, unit)), (("told", "x", low, high, unit),))

    def test_what_is_told(self):
        five = (READ, ("read", "two", "tool"))
        for expression, unit, low, high in (
            (grains((7, 2), "mm"), "mm", (7, 2), (7, 2)), (("minus", ONE, TWO), "length", (10, 1), (50, 1)), (("plus", ONE, ("times", TWO, grains(2, "1"))), "length", (60, 1), (120, 1)),
            (("times", ONE, TWO), "length^2", (400, 1), (1800, 1)), (("over", ONE, TWO), "1", (4, 3), (6, 1)), (("over", grains(60), ("minus", ONE, TWO)), "1", (6, 5), (6, 1)),
            (("times", ("minus", ONE, grains(50)), ("minus", ONE, grains(50))), "mm*length", (0, 1), (10, 1)), (TOOL, "length", (0, 1), (0, 1)),
            (("over", ONE, BEAT), "mm/s", None, None),
        ):
            run = self.run_of([5, 2], *five, tell("x", expression, unit))
            if low is None:
                self.assertEqual(run.kind, "nought")
            else:
                self.assertEqual(run.rows, (("told", "x", low, high, unit),))

    def test_by_what_is_known_there(self):
        self.assertEqual(self.rows([5, 6], tell("x"), READ, tell("y"), READ, tell("z"), tell("z")), (
            ("told", "x", (0, 1), (100, 1), "length"), ("told", "y", (40, 1), (60, 1), "length"), ("told", "z", (50, 1), (60, 1), "length"), ("told", "z", (50, 1), (60, 1), "length"),
        ))

    def test_a_name_stands_for_the_quantity(self):
        body = (let("x", ONE), tell("a", name("x")), READ, tell("b", name("x")))
        self.assertEqual(self.rows([5], *body), (("told", "a", (0, 1), (100, 1), "length"), ("told", "b", (40, 1), (60, 1), "length")))

    def test_offsets_by_marks(self):
        # The stretches of the dial are certified to 0, those of the clock are not.
        offsets = [tell("a", ("offset", "timer", mark), "time") for mark in (-5, 2, 3, 99)]
        self.assertEqual(self.rows([], *offsets), (("told", "a", (-5, 1), (5, 1), "time"),) * 4)
        self.assertEqual(self.rows([], tell("a", ("minus", ("offset", "timer", 0), ("offset", "timer", 2)), "time")), (("told", "a", (0, 1), (0, 1), "time"),))
        self.assertEqual(self.rows([], tell("a", ("minus", ("offset", "timer", 0), ("offset", "timer", 9)), "s")), (("told", "a", (0, 1), (0, 1), "s"),))


class Judging(RunCase):
    def test_each_verdict(self):
        for good, bad, word in ((60, 61, "passed"), (50, 60, "open"), (39, 40, "failed"), (40, 60, "open"), (61, 60, "failed"), (40, 39, "passed"), (60, 40, "open")):
            run = self.run_of([5], READ, judge("x", good, bad))
            self.assertEqual(run.rows, (("judged", "x", word),))

    def test_limits_in_other_units_and_by_names(self):
        body = (READ, let("g", grains(6, "mm")), let("n", ("plus", name("g"), grains((1, 10), "length"))), ("judge", "x", ONE, name("g"), name("n")))
        run = self.run_of([5], *body)
        self.assertEqual(run.rows, (("judged", "x", "passed"),))
        self.assertEqual(run.claims(), (("passed", ("sum", spot_form(X), (1, 0)), (60, 1), (601, 10)),))


class Choosing(RunCase):
    BODIES = ((tell("p"),), (tell("f"),), (tell("o"),))

    def test_each_verdict(self):
        for mark, label in ((2, "p"), (8, "f"), (5, "o")):
            self.assertEqual(self.labels([mark], READ, choose(*self.BODIES), tell("z")), [label, "z"])

    def test_empty_bodies(self):
        for mark in (2, 5, 8):
            self.assertEqual(self.labels([mark], READ, choose(), tell("z")), ["z"])
        self.assertEqual(self.labels([2], READ, choose((), *self.BODIES[1:]), tell("z")), ["z"])
        self.assertEqual(self.labels([8], READ, choose(self.BODIES[0], (), self.BODIES[2]), tell("z")), ["z"])

    def test_a_choice_within_a_choice(self):
        inner = choose((tell("p"),), (), (tell("q"),), 55, 60)
        self.assertEqual(self.labels([5, 4], READ, choose((), (), (READ, inner)), tell("z")), ["p", "z"])
        self.assertEqual(self.labels([5, 5], READ, choose((), (), (READ, inner)), tell("z")), ["q", "z"])

    def test_a_choice_adds_no_row(self):
        run = self.run_of([5], READ, choose())
        self.assertEqual((run.rows, run.claims(), run.questions()), ((), (), ()))


class GoingThrough(RunCase):
    def test_repeat(self):
        for many in (1, 2, 3, 4):
            run = self.run_of([5] * 6, ("repeat", many, (READ, tell("x"))), tell("z"))
            self.assertEqual((run.used, len(run.rows)), (many, many + 1))
        self.assertEqual(self.labels([], ("repeat", 3, ()), tell("z")), ["z"])
        self.assertEqual(self.labels([], ("repeat", 2, (("repeat", 3, (tell("a"),)), tell("b")))), ["a", "a", "a", "b"] * 2)

    def test_leave(self):
        self.assertEqual(self.labels([], ("repeat", 4, (tell("a"), LEAVE, tell("b"))), tell("z")), ["a", "z"])
        inner = ("repeat", 2, (("repeat", 3, (tell("a"), LEAVE)), tell("b")))
        self.assertEqual(self.labels([], inner, tell("z")), ["a", "b", "a", "b", "z"])
        # The innermost one that is written around it, also out of a choice.
        until = ("repeat", 4, (READ, choose((LEAVE, tell("n")), (), (tell("o"),)), tell("e")))
        self.assertEqual(self.labels([5, 5, 3, 5], until, tell("z")), ["o", "e", "o", "e", "z"])
        self.assertEqual(self.run_of([5, 5, 3, 5], until).used, 3)

    def test_stop(self):
        self.assertEqual(self.labels([], tell("a"), STOP, tell("b")), ["a"])
        self.assertEqual(self.labels([], ("repeat", 2, (tell("a"), ("repeat", 2, (tell("b"), STOP)))), tell("z")), ["a", "b"])
        self.assertEqual(self.labels([], choose((), (), (STOP,)), tell("z")), [])

    def test_an_empty_body(self):
        run = self.run_of([5])
        self.assertEqual((run.kind, run.rows, run.reads, run.used), ("done", (), (), 0))
        self.assertEqual(run.web, run.slip.web)

    OTHER = ("other", (("left", "length"), ("right", "length")), (("arm", "length"),), (("read", "left", "arm"), ("tell", "gap", ("minus", sized("left"), sized("right")), "length")))

    def test_call(self):
        run = self.run_of([5, 2], ("call", "other", ("one", "two"), ("tool",)), ("call", "other", ("two", "one"), ("tool",)), tell("z"), others=(self.OTHER,))
        self.assertEqual(run.reads, (("bore", "gauge", 5), ("slot", "gauge", 2)))
        self.assertEqual(run.rows, (
            ("told", "gap", (-60, 1), (60, 1), "length"), ("told", "gap", (-50, 1), (-10, 1), "length"), ("told", "z", (40, 1), (60, 1), "length"),
        ))

    def test_one_thing_for_two_parameters_of_a_call(self):
        run = self.run_of([5], ("call", "other", ("two", "two"), ("tool",)), others=(self.OTHER,))
        self.assertEqual((run.reads, run.rows), ((("slot", "gauge", 5),), (("told", "gap", (0, 1), (0, 1), "length"),)))

    def test_calls_within_calls(self):
        inner = ("inner", (("a", "length"),), (("b", "length"), ("c", "length")), (("read", "a", "c"), ("tell", "x", ("minus", sized("a"), ("offset", "b", 0)), "length")))
        outer = ("outer", (("u", "length"), ("v", "length")), (("w", "length"), ("t", "length")), (("call", "inner", ("v",), ("t", "w")), ("call", "inner", ("u",), ("w", "t"))))
        main = procedure(("call", "outer", ("two", "one"), ("tool", "arm")), tell("z"), roles=(("tool", "length"), ("arm", "length"), ("timer", "time")))
        charter = house(main, outer, inner, roles=(("gauge", "length"), ("spare", "length")))
        slip = Slip(charter, "main", 1, FEATURES, ("dial", "ring", "nobody"), certified(charter, "dial", "ring"), ("gauge", "spare", ""))
        run = slip([5, 2])
        self.is_run(run)
        self.assertEqual(run.reads, (("bore", "gauge", 5), ("slot", "spare", 2)))
        self.assertEqual([row[2:4] for row in run.rows], [ratios(40, 60), ratios(10, 30), ratios(40, 60)])
        self.assertEqual(run.web.links[-1][1], ("ring", 0, 1))
        self.assertEqual(run.web.links[-3][1], ("dial", 1, 1))

    def test_a_stop_in_a_call_ends_the_run(self):
        halt = ("halt", (), (), (("repeat", 2, (STOP,)),))
        self.assertEqual(self.labels([], tell("a"), ("repeat", 2, (("call", "halt", (), ()), tell("b"))), tell("c"), others=(halt,)), ["a"])

    def test_a_leave_in_a_call_ends_a_repeat_of_its_own(self):
        away = ("away", (("p", "length"),), (), (("repeat", 3, (("tell", "i", sized("p"), "length"), LEAVE)), ("tell", "j", sized("p"), "length")))
        self.assertEqual(self.labels([], ("repeat", 2, (("call", "away", ("one",), ()), tell("b"))), others=(away,)), ["i", "j", "b"] * 2)

    def test_ends_of_other_kinds_within_bodies_and_calls(self):
        ask = ("ask", (("p", "length"),), (("q", "length"),), (("repeat", 2, (("read", "p", "q"),)), ("tell", "i", sized("p"), "length")))
        body = (("repeat", 2, (("call", "ask", ("one",), ("tool",)), tell("b"))), tell("c"))
        for marks, kind, labels in (([5, 5, 5], "asks", ["i", "b"]), ([5, 9], "clash", []), ([5, 5, 5, 8], "clash", ["i", "b"]), ([5] * 4, "done", ["i", "b", "i", "b", "c"])):
            self.assertEqual(self.labels(marks, *body, kind=kind, others=(ask,)), labels)
        self.assertEqual(self.labels([5], *body, kind="nobody", others=(ask,), devices=("nobody", "clock")), [])


class Names(RunCase):
    def test_in_a_body_and_behind_it(self):
        inner = choose((), (), (let("b", ("plus", name("a"), grains(1))), tell("i", name("b"))))
        self.assertEqual(self.rows([5], READ, let("a", ONE), inner, tell("o", name("a"))), (("told", "i", (41, 1), (61, 1), "length"), ("told", "o", (40, 1), (60, 1), "length")))

    def test_in_repeated_bodies(self):
        body = (let("a", ONE), let("b", ("minus", name("a"), TWO)), tell("x", name("b")), READ)
        self.assertEqual(self.rows([5, 6], ("repeat", 2, body), let("c", ONE), tell("z", name("c"))), (
            ("told", "x", (-100, 1), (100, 1), "length"), ("told", "x", (-60, 1), (60, 1), "length"), ("told", "z", (50, 1), (60, 1), "length"),
        ))
        nested = ("repeat", 2, (let("a", ONE), ("repeat", 2, (let("b", name("a")), tell("x", name("b")), LEAVE)), tell("y", name("a"))))
        self.assertEqual(self.labels([], nested), ["x", "y"] * 2)

    def test_names_of_another_procedure_are_its_own(self):
        other = ("other", (("p", "length"),), (), (let("a", ("times", grains(2, "1"), sized("p"))), ("tell", "i", name("a"), "length")))
        self.assertEqual(self.rows([5], READ, let("a", ONE), ("call", "other", ("two",), ()), tell("o", name("a")), others=(other,)), (
            ("told", "i", (0, 1), (200, 1), "length"), ("told", "o", (40, 1), (60, 1), "length"),
        ))

    def test_names_of_names(self):
        body = [let("a", ONE)]
        for word, before in zip("bcdefgh", "abcdefg"):
            body.append(let(word, ("plus", name(before), name(before))))
        self.assertEqual(self.rows([5], READ, *body, tell("x", name("h"))), (("told", "x", (40 * 128, 1), (60 * 128, 1), "length"),))


class Traces(RunCase):
    def trace(self, marks, *body, **parts):
        return list(self.slip(*body, **parts).trace(marks))

    def steps(self, marks, *body, **parts):
        return [step for _, step in self.trace(marks, *body, **parts)]

    def test_plain_statements(self):
        self.assertEqual(self.trace([5], let("a", ONE), READ, tell("x"), judge("y", 1, 2)), [("main", 0), ("main", 1), ("main", 2), ("main", 3)])
        self.assertEqual(self.trace([]), [])

    def test_what_ends_the_run_was_begun(self):
        for marks, body, steps in (
            ([], (tell("x"), READ, tell("y")), [0, 1]), ([5, 8], (READ, READ, tell("y")), [0, 1]), ([], (tell("x"), STOP, tell("y")), [0, 1]), ([], (tell("x", ("over", ONE, TWO), "1"), tell("y")), [0]),
        ):
            self.assertEqual(self.steps(marks, *body), steps)
        self.assertEqual(self.steps([], tell("x", TOOL), tell("y"), devices=("nobody", "clock")), [0])

    def test_choose(self):
        body = (READ, choose((tell("a"), tell("b")), (("repeat", 1, (tell("c"),)), tell("d")), (tell("e"),)), tell("f"))
        for mark, steps in ((2, [0, 1, 2, 3, 8]), (8, [0, 1, 4, 5, 6, 8]), (5, [0, 1, 7, 8])):
            self.assertEqual(self.steps([mark], *body), steps)

    def test_repeat(self):
        body = (("repeat", 3, (tell("a"), ("repeat", 2, (tell("b"), LEAVE, tell("c"))))), tell("d"))
        self.assertEqual(self.steps([], *body), [0] + [1, 2, 3, 4] * 3 + [6])

    def test_call(self):
        other = ("other", (("p", "length"),), (), (("repeat", 2, (("tell", "i", sized("p"), "length"),)), STOP))
        self.assertEqual(self.trace([], tell("a"), ("call", "other", ("one",), ()), tell("b"), others=(other,)), [("main", 0), ("main", 1), ("other", 0), ("other", 1), ("other", 1), ("other", 2)])

    def test_a_generator(self):
        made = self.slip(READ, tell("x"))
        pairs = made.trace([99])
        self.raises(BadMark, lambda: next(pairs), place=0)
        pairs = made.trace([5, 99])
        self.assertEqual(next(pairs), ("main", 0))
        self.assertEqual(list(pairs), [("main", 1)])

    def test_as_many_as_are_counted(self):
        body = (("repeat", 4, (READ, choose((tell("a"),), (tell("a"), tell("b")), (tell("c"), ("repeat", 2, (tell("d"),)))))),)
        made = self.slip(*body)
        self.assertEqual(readings(made.charter, "main"), (4, 1 + 4 * (1 + 1 + 2 + 2)))
        self.assertEqual(len(list(made.trace([5] * 4))), 1 + 4 * (1 + 1 + 2 + 2))


class Evidence(RunCase):
    def setUp(self):
        self.run = self.run_of([5, 6], tell("a"), READ, judge("b", 40, 60), tell("c", ("times", ONE, ONE), "length^2"), READ, tell("a"), judge("d", 60, 61), tell("e", ("over", ONE, grains(10)), "1"))
        self.sum = ("sum", spot_form(X), (1, 0))

    def test_quantities(self):
        self.assertEqual([self.run.quantity(number) for number in range(6)], [
            self.sum, self.sum, ("product", spot_form(X), spot_form(X), (1, 1), (2, 0)), self.sum, self.sum, ("sum", spot_form((X, (1, 10))), (0, 0)),
        ])

    def test_in_the_web_in_which_it_was_told(self):
        whole = self.run.web
        start = self.run.slip.web
        middle = Web(whole.spots, whole.links[:len(start) + 2])
        for number, web in ((0, start), (2, middle), (3, whole), (5, whole)):
            pair = self.run.evidence(number)
            self.assertIs(type(pair), tuple)
            for end, value in zip(pair, self.run.rows[number][2:4]):
                self.assertIsInstance(end, End)
                self.assertEqual(end.value, value)
                self.is_world(web, end.reached)
                self.assertEqual(value_in(end.reached, self.run.quantity(number)), value)
                self.assertEqual(end.paper is None, number == 2)
        low, high = self.run.evidence(3)
        self.is_paper(whole, Form.of(X), high.paper, high.value)
        self.is_paper(whole, -Form.of(X), low.paper, told(-fraction(low.value)))

    def test_verdicts(self):
        found = self.run.evidence(1)
        self.assertIsInstance(found, Verdict)
        self.assertEqual(found.word, "open")
        web = Web(self.run.web.spots, self.run.web.links[:len(self.run.slip.web) + 2])
        for world, good in ((found.good, True), (found.bad, False)):
            self.is_world(web, world)
            self.assertTrue(fraction(world[X]) <= 40 if good else fraction(world[X]) >= 60)
        found = self.run.evidence(4)
        self.assertEqual((found.word, found.good, found.bad), ("passed", None, None))

    def test_no_row(self):
        for number in (6, 7, -1, -6, "0") + STRANGE:
            self.raises(NoRow, lambda: self.run.evidence(number), number=number)
            self.raises(NoRow, lambda: self.run.quantity(number), number=number)
        empty = self.run_of([])
        self.raises(NoRow, lambda: empty.evidence(0), number=0)
        self.raises(NoRow, lambda: empty.quantity(0), number=0)

    def test_units_do_not_change_the_evidence(self):
        run = self.run_of([5], READ, tell("x", ONE, "mm"))
        self.assertEqual([end.value for end in run.evidence(0)], [(40, 1), (60, 1)])


class ClaimsAndQuestions(RunCase):
    def test_in_grains_in_the_order_of_the_rows(self):
        run = self.run_of([5], READ, tell("a", ONE, "mm"), judge("b", 60, 61), ("judge", "c", ONE, grains(4, "mm"), grains(6, "mm")), judge("d", 39, 40), tell("e", ("over", ONE, grains(1, "s")), "mm/s"))
        size = ("sum", spot_form(X), (1, 0))
        speed = ("sum", spot_form((X, (2, 3))), (1, -1))
        self.assertEqual(run.claims(), (
            ("within", size, (40, 1), (60, 1)), ("passed", size, (60, 1), (61, 1)), ("failed", size, (39, 1), (40, 1)), ("within", speed, (80, 3), (40, 1)),
        ))
        self.assertEqual(run.questions(), ((size, (40, 1), (60, 1)),))

    def test_open_verdicts_make_questions(self):
        ratio = ("over", ONE, ("plus", TWO, grains(1)))
        run = self.run_of([], ("judge", "a", ratio, grains(1, "1"), grains((3, 2), "1")), judge("b", 60, 40), judge("c", 200, 300), tell("d"))
        self.assertEqual([row[2] for row in run.rows[:3]], ["open", "open", "passed"])
        self.assertEqual(run.questions(), (
            (("quotient", spot_form(X), spot_form(Y, rest=(1, 1)), (1, 1), (0, 0)), (1, 1), (3, 2)), (("sum", spot_form(X), (1, 0)), (60, 1), (40, 1)),
        ))
        self.assertEqual([claim[0] for claim in run.claims()], ["passed", "within"])

    def test_runs_that_end_in_between(self):
        for marks, kind in (([5], "asks"), ([5, 9], "clash")):
            run = self.run_of(marks, READ, tell("a"), judge("b", 40, 60), READ, tell("c"))
            self.assertEqual((run.kind, len(run.claims()), len(run.questions())), (kind, 1, 1))
        self.assertEqual(self.run_of([]).claims(), ())
        self.assertEqual(self.run_of([]).questions(), ())

    def test_claims_are_kept_by_all_worlds_that_were_reached(self):
        run = self.run_of([5, 2], READ, ("read", "two", "tool"), tell("a", ("times", ONE, TWO), "length^2"), tell("b", ("over", ONE, TWO), "1"), judge("c", 61, 62))
        for number in range(2):
            for end in run.evidence(number):
                self.assertEqual([denies(end.reached, claim) for claim in run.claims()], [False] * 3)


class AgainAndAgain(RunCase):
    def test_the_same_slip_with_other_marks(self):
        made = self.slip(READ, tell("x"), READ, tell("y"))
        links = made.web.links
        found = [made(marks).rows for marks in ([5, 5], [2, 3], [5, 5], [], (5, 5))]
        self.assertEqual(found[0], found[2])
        self.assertEqual(found[0], found[4])
        self.assertEqual((found[1], found[3]), ((("told", "x", (10, 1), (30, 1), "length"), ("told", "y", (20, 1), (30, 1), "length")), ()))
        self.assertEqual(made.web.links, links)

    def test_marks_of_the_caller_are_not_changed(self):
        marks = [5, 5, 5]
        run = self.slip(READ)(marks)
        marks.clear()
        self.assertEqual(run.reads, (("bore", "gauge", 5),))

    def test_clash_goes_first(self):
        charter = house(procedure(READ))
        broken = certified(charter).more([(GROUND, X, -1, ("news", 3))])
        made = Slip(charter, "main", 1, FEATURES, DEVICES, broken)
        for marks in ([], [5], [99]):
            self.is_ring(broken, self.raises(Clash, lambda: made(marks)).ring)


class TrueInEveryWorld(RunCase):
    """A world is drawn, the devices show what they can show in it, and what is told must be so in it."""

    def test_worlds_that_are_drawn(self):
        rng = random.Random(32)
        parts = (let("gap", ("minus", ONE, TWO)), let("ratio", ("over", ONE, ("plus", TWO, grains(7)))), let("area", ("times", name("gap"), ("minus", ONE, TOOL))))
        look = (tell("a", name("gap")), tell("b", name("ratio"), "1"), tell("c", name("area"), "mm^2"), judge("d", 10, 20, name("gap")), ("judge", "e", name("ratio"), grains(2, "1"), grains(1, "1")))
        body = parts + look + (READ, ("read", "two", "tool")) + look + (choose((READ,), (("read", "two", "tool"),), (READ,)),) + look
        charter = house(procedure(*body), devices=(device("dial", step=10, slack=12, least=-20, greatest=20, steep=4, cuts=(4, 7)), device("ring"), device("clock", "time")))
        web = Web(charter.all_spots(), charter.own_links())
        slip = Slip(charter, "main", 1, FEATURES, DEVICES, web)
        for _ in range(15):
            world = self.drawn(rng, web)
            marks = []
            run = slip(marks)
            while run.kind == "asks":
                thing, by = run.asked
                marks.append(rng.choice(marks_in(world, charter[by], thing, 1)))
                run = slip(marks)
            self.is_run(run)
            self.assertEqual(run.kind, "done")
            self.assertTrue(run.web.allows(world))
            self.assertEqual(len(run.rows), 15)
            for claim in run.claims():
                self.assertFalse(denies(world, claim))

    def drawn(self, rng, web):
        """Some world of a web, spot by spot."""
        links = []
        for spot in web.spots[1:]:
            narrowed = web.more(links)
            value = rng.randint(-narrowed.bound(spot, GROUND), narrowed.bound(GROUND, spot))
            links += [(GROUND, spot, value, ("drawn",)), (spot, GROUND, -value, ("drawn",))]
        return web.more(links).highest()


class WhatTakesLong(RunCase):
    def test_the_longest_procedures(self):
        rng = random.Random(26)
        sizes, tools = [("x" + letter, "length") for letter in "abcd"], [("r" + letter, "length") for letter in "abcd"]
        leaves = [sized(word) for word, _ in sizes] + [("offset", word, mark) for word, _ in tools for mark in (0, 25, 45)]

        def total():
            made = rng.choice(leaves)
            for _ in range(6):
                made = (rng.choice(("plus", "minus")), made, rng.choice(leaves))
            return made

        names = ["n" + letter for letter in "abcdef"]
        body = [let(word, total()) for word in names]
        body += [("read", rng.choice(sizes)[0], rng.choice(tools)[0]) for _ in range(6)]
        told_rows = []
        for at in range(12):
            left, right = name(rng.choice(names)), ("plus", name(rng.choice(names)), grains(10 ** 5))
            told_rows.append(tell("t", *((("times", left, right), "length^2"), (("over", left, right), "1"), (("minus", left, right), "length"))[at % 3]))
        body.append(("repeat", 4, (("repeat", 2, tuple(told_rows)),)))
        things = [device("d" + letter, low=0, high=59, step=10, slack=200, least=-300, greatest=300, fall=5, rise=7, steep=40, cuts=(20, 40)) for letter in "abcd"]
        pieces = [feature("f" + letter, least=500, greatest=1900, fall=3, rise=4) for letter in "abcdef"]
        charter = house(("main", tuple(sizes), tuple(tools), tuple(body)), days=13, devices=things, features=pieces, roles=())
        self.assertEqual(readings(charter, "main"), (6, 12 + 1 + 4 * (1 + 2 * 12)))
        self.assertEqual(len(charter.all_spots()), 235)
        slip = Slip(charter, "main", 6, ["fa", "fb", "fc", "fd"], ["da", "db", "dc", "dd"], Web(charter.all_spots(), charter.own_links()))
        began = time.perf_counter()
        run = slip([50, 51, 50, 49, 50, 50])
        self.assertLess(time.perf_counter() - began, 10)
        self.is_run(run)
        self.assertEqual((run.kind, len(run.rows)), ("done", 96))
        for number in (0, 1, 2):
            for end in run.evidence(number):
                self.is_world(run.web, end.reached)
                self.assertEqual(value_in(end.reached, run.quantity(number)), end.value)


class AsOtherFunctionsTell(RunCase):
    def test_ends_and_verdicts(self):
        expressions = (ONE, ("minus", ONE, TWO), ("times", ONE, ("minus", grains(90), ONE)), ("over", TWO, ("plus", ONE, TOOL)))
        units = ("mm", "length", "length^2", "1")
        body = [READ] + [tell("x", expression, unit) for expression, unit in zip(expressions, units)]
        body += [("judge", "y", expression, grains(1, unit), grains(2, unit)) for expression, unit in zip(expressions, units)]
        run = self.run_of([6], *body)
        charter = run.slip.charter
        for number, (expression, unit) in enumerate(zip(expressions, units)):
            quantity = quantity_of(charter, charter["main"], expression, 1, FEATURES, DEVICES)
            factor = charter.system().factor_of(unit)
            low, high = [fraction(end.value) / fraction(factor) for end in ends(run.web, quantity)]
            self.assertEqual(run.rows[number], ("told", "x", told(low), told(high), unit))
            found = verdict(run.web, quantity, factor, told(2 * Fraction(*factor)))
            self.assertEqual(run.rows[number + 4], ("judged", "y", found.word))
            self.assertEqual(run.quantity(number), quantity)


if __name__ == "__main__":
    unittest.main()
