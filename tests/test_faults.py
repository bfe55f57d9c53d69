"""[25] the faults of procedures, in their order; [26] rings, readings and steps."""

import unittest

from ellwarden.errors import BadStep, Ring, TooLong, Unknown
from ellwarden.expressions import readings, steps_of
from samples import grains, house, procedure, sized

ONE, TWO, BEAT = sized("one"), sized("two"), sized("beat")
GOOD, BAD = grains(1), grains(2)
SECOND = grains(1, "time")
LENGTH, TIME = (1, 0), (0, 1)
STOP = ("stop",)
READ = ("read", "one", "tool")


def name(word):
    return ("name", word)


def offset(role, mark=0):
    return ("offset", role, mark)


def let(word, expression):
    return ("let", word, expression)


def choose(passed=(), failed=(), kept=()):
    return ("choose", ONE, GOOD, BAD, passed, failed, kept)


def called(word="other", features=(), roles=()):
    return ("call", word, features, roles)


OTHER = procedure(name="other", features=(("x", "length"), ("y", "time")), roles=(("z", "length"),))


class Case(unittest.TestCase):
    def faulty(self, entry, step, kind, about, *others):
        with self.assertRaises(BadStep, msg=repr(entry)) as caught:
            house(entry, *others)
        error = caught.exception
        self.assertEqual((error.procedure, error.step, error.kind, error.about), (entry[0], step, kind, about))

    def fault(self, body, step, kind, about):
        """The fault of a body, also behind another procedure, and ahead of one with a fault."""
        self.faulty(procedure(*body), step, kind, about, OTHER)
        with self.assertRaises(BadStep) as caught:
            house(OTHER, procedure(*body, name="later"), procedure(("leave",), name="last"))
        error = caught.exception
        self.assertEqual((error.procedure, error.step, error.kind, error.about), ("later", step, kind, about))

    def in_expression(self, expression, kind, about):
        """The fault of an expression, in each place where one stands."""
        self.fault((let("a", expression),), 0, kind, about)
        self.fault((STOP, ("tell", "a", expression, "ratio")), 1, kind, about)
        self.fault((choose((STOP,), (), (let("a", expression),)),), 2, kind, about)
        self.fault((("judge", "a", expression, GOOD, BAD),), 0, kind, about)
        self.fault((("judge", "a", GOOD, expression, BAD),), 0, kind, about)
        self.fault((("judge", "a", GOOD, GOOD, expression),), 0, kind, about)
        self.fault((("choose", expression, GOOD, BAD, (), (), ()),), 0, kind, about)
        self.fault((let("a", ("times", GOOD, expression)),), 0, kind, about)
        self.fault((let("a", ("over", expression, GOOD)),), 0, kind, about)

    def fine(self, *body):
        entry = procedure(*body)
        self.assertEqual(house(entry, OTHER)["main"], entry)


class TwiceFaults(Case):
    def test_parameters(self):
        for features, roles, about in (
            ((("a", "length"), ("a", "time")), (), "a"), ((), (("a", "length"), ("b", "time"), ("b", "time")), "b"),
            ((("a", "length"), ("b", "length")), (("c", "time"), ("b", "time")), "b"),
            ((("a", "length"), ("b", "length"), ("b", "length"), ("a", "length")), (), "b"),
        ):
            self.faulty(procedure(("leave",), features=features, roles=roles), -1, "twice", about)

    def test_lets(self):
        for word in ("one", "two", "beat", "tool", "timer"):
            self.fault((let(word, GOOD),), 0, "twice", word)
        self.fault((let("a", GOOD), let("b", GOOD), let("a", GOOD)), 2, "twice", "a")

    def test_a_let_in_a_body_that_has_ended(self):
        self.fault((choose((let("a", GOOD),), (STOP,), ()), let("a", GOOD)), 3, "twice", "a")
        self.fault((choose((let("a", GOOD),), (let("a", GOOD),)),), 2, "twice", "a")
        self.fault((("repeat", 2, (let("a", GOOD),)), STOP, let("a", GOOD)), 3, "twice", "a")
        self.fault((let("a", GOOD), ("repeat", 2, (let("a", GOOD),))), 2, "twice", "a")

    def test_other_procedures_are_free(self):
        first = procedure(let("a", GOOD), let("b", GOOD))
        second = procedure(let("a", GOOD), name="other")
        self.assertEqual(len(house(first, second).procedures), 2)
        self.fine(let("dial", GOOD), let("main", GOOD), let("length", GOOD), let("mm", GOOD), ("tell", "dial", name("dial"), "mm"))

    def test_ahead_of_its_expression(self):
        self.fault((let("one", sized("none")),), 0, "twice", "one")
        self.fault((let("a", GOOD), let("a", ("plus", ONE, BEAT))), 1, "twice", "a")


class UnknownFaults(Case):
    def test_in_read(self):
        self.fine(("read", "two", "tool"), ("read", "beat", "timer"))
        for feature, role, about in (
            ("none", "tool", "none"), ("tool", "tool", "tool"), ("one", "none", "none"), ("one", "two", "two"), ("none", "nowhere", "none"),
            ("bore", "tool", "bore"), ("one", "dial", "dial"), ("one", "gauge", "gauge"),
        ):
            self.fault((STOP, ("read", feature, role)), 1, "unknown", about)

    def test_names_of_lets_are_no_features_or_roles(self):
        for statement in (("read", "a", "tool"), ("read", "one", "a"), let("b", sized("a")), let("b", offset("a"))):
            self.fault((let("a", ONE), statement), 1, "unknown", "a")

    def test_in_expressions(self):
        for expression, about in (
            (sized("none"), "none"), (sized("tool"), "tool"), (offset("none"), "none"), (offset("one"), "one"), (name("none"), "none"),
            (name("one"), "one"), (name("tool"), "tool"), (sized("bore"), "bore"), (offset("dial"), "dial"), (name("mm"), "mm"),
            (name("main"), "main"),
        ):
            self.in_expression(expression, "unknown", about)

    def test_a_name_is_there_from_the_end_of_its_let_on(self):
        self.fault((let("a", name("a")),), 0, "unknown", "a")
        self.fault((let("a", ("plus", ONE, name("a"))),), 0, "unknown", "a")
        self.fault((("tell", "a", name("a"), "mm"), let("a", ONE)), 0, "unknown", "a")
        self.fine(let("a", ONE), let("b", name("a")), let("c", ("plus", name("a"), name("b"))))

    def test_a_name_is_there_to_the_end_of_its_body(self):
        tell = ("tell", "x", name("a"), "mm")
        self.fine(let("a", ONE), choose((tell,), (tell,), (("repeat", 2, (tell,)),)), tell)
        self.fine(choose((let("a", ONE), choose((tell,)), tell)))
        self.fault((choose((let("a", ONE),)), tell), 2, "unknown", "a")
        self.fault((choose((let("a", ONE),), (tell,)),), 2, "unknown", "a")
        self.fault((("repeat", 2, (let("a", ONE), tell)), tell), 3, "unknown", "a")
        self.fault((choose((choose((let("a", ONE),)), tell)),), 3, "unknown", "a")

    def test_procedures(self):
        for word in ("none", "dial", "gauge", "one", "tool", "a", "mm"):
            self.fault((let("a", ONE), called(word)), 1, "unknown", word)
        self.fault((called("none", ("none",), ("none",)),), 0, "unknown", "none")

    def test_what_is_handed_on(self):
        for features, roles, about in (
            (("none", "beat"), ("tool",), "none"), (("one", "none"), ("tool",), "none"), (("one", "beat"), ("none",), "none"),
            (("tool", "beat"), ("tool",), "tool"), (("one", "beat"), ("one",), "one"), (("x", "y"), ("z",), "x"),
            (("bore", "beat"), ("tool",), "bore"), (("one", "beat"), ("dial",), "dial"),
        ):
            self.fault((called("other", features, roles),), 0, "unknown", about)
        self.fault((called("other", ("one", "one", "none"), ("tool",)),), 0, "unknown", "none")
        self.fault((let("a", ONE), called("other", ("a", "beat"), ("tool",))), 1, "unknown", "a")

    def test_the_first_one_from_left_to_right(self):
        self.fault((let("a", ("plus", sized("x"), sized("y"))),), 0, "unknown", "x")
        self.fault((("judge", "a", ONE, sized("x"), sized("y")),), 0, "unknown", "x")


class ParametersFaults(Case):
    def test_more_or_fewer(self):
        self.fine(called("other", ("one", "beat"), ("tool",)))
        for features, roles in (
            ((), ()), (("one",), ("tool",)), (("one", "beat"), ()), (("one", "beat", "beat"), ("tool",)), (("one", "beat"), ("tool", "tool")),
            ((), ("tool",)), (("one", "beat", "one", "one", "one"), ("tool",)),
        ):
            self.fault((called("other", features, roles),), 0, "parameters", "other")

    def test_ahead_of_mixed(self):
        self.fault((called("other", ("beat",), ("timer",)),), 0, "parameters", "other")
        self.fault((called("other", ("beat", "one", "one"), ("tool",)),), 0, "parameters", "other")

    def test_a_procedure_that_calls_itself(self):
        self.faulty(procedure(called("main")), 0, "parameters", "main")


class UnitFaults(Case):
    TEXTS = ("", "m", "mm ", "mm**s", "one", "peak*mm", "mm^10", "1*1", "mm/s/", "MM", "a" * 201, " ")

    def test_in_amounts(self):
        for text in self.TEXTS:
            self.in_expression(("amount", (1, 1), text), "unit", text)

    def test_in_tell(self):
        for text in self.TEXTS:
            self.fault((STOP, ("tell", "a", ONE, text)), 1, "unit", text)

    def test_the_expression_goes_ahead_of_the_unit(self):
        self.fault((("tell", "a", sized("none"), "m"),), 0, "unknown", "none")
        self.fault((("tell", "a", ("amount", (1, 1), "x"), "m"),), 0, "unit", "x")


class MixedFaults(Case):
    def test_in_read(self):
        self.fault((("read", "one", "timer"),), 0, "mixed", (LENGTH, TIME))
        self.fault((("read", "beat", "tool"),), 0, "mixed", (TIME, LENGTH))

    def test_in_sums(self):
        for word in ("plus", "minus"):
            self.in_expression((word, ONE, BEAT), "mixed", (LENGTH, TIME))
            self.in_expression((word, BEAT, GOOD), "mixed", (TIME, LENGTH))
            self.in_expression((word, ("times", ONE, BEAT), ("over", ONE, BEAT)), "mixed", ((1, 1), (1, -1)))
            self.in_expression((word, grains(1, "1"), ONE), "mixed", ((0, 0), LENGTH))

    def test_in_tell(self):
        self.fault((("tell", "a", ONE, "s"),), 0, "mixed", (LENGTH, TIME))
        self.fault((("tell", "a", ("times", ONE, TWO), "mm"),), 0, "mixed", ((2, 0), LENGTH))
        self.fine(("tell", "a", ("over", ONE, BEAT), "mm/s"))

    def test_in_decisions(self):
        for head, tail in ((("judge", "a"), ()), (("choose",), ((), (), ()))):
            self.fault((head + (ONE, SECOND, BAD) + tail,), 0, "mixed", (LENGTH, TIME))
            self.fault((head + (ONE, GOOD, SECOND) + tail,), 0, "mixed", (LENGTH, TIME))
            self.fault((head + (BEAT, GOOD, BAD) + tail,), 0, "mixed", (TIME, LENGTH))
            self.fault((head + (ONE, SECOND, grains(1, "ratio")) + tail,), 0, "mixed", (LENGTH, TIME))
            self.fault((head + (ONE, GOOD, grains(1, "ratio")) + tail,), 0, "mixed", (LENGTH, (0, 0)))

    def test_in_calls(self):
        for features, roles, about in (
            (("beat", "beat"), ("tool",), (TIME, LENGTH)), (("one", "two"), ("tool",), (LENGTH, TIME)),
            (("one", "beat"), ("timer",), (TIME, LENGTH)), (("beat", "one"), ("timer",), (TIME, LENGTH)),
            (("one", "one"), ("timer",), (LENGTH, TIME)),
        ):
            self.fault((called("other", features, roles),), 0, "mixed", about)


class HighFaults(Case):
    PEAK = ("amount", (1, 1), "peak")

    def test_products_and_quotients(self):
        self.in_expression(("times", self.PEAK, ONE), "high", (10, 0))
        self.in_expression(("times", ONE, self.PEAK), "high", (10, 0))
        self.in_expression(("over", grains(1, "1/peak"), ONE), "high", (-10, 0))
        self.in_expression(("over", self.PEAK, grains(1, "1/mm/s")), "high", (10, 1))
        self.fine(let("a", ("times", grains(1, "mm^8"), ONE)), let("b", ("over", self.PEAK, ONE)))

    def test_the_innermost_goes_first(self):
        high = ("times", self.PEAK, ONE)
        self.in_expression(("times", high, self.PEAK), "high", (10, 0))
        self.in_expression(("over", ("times", grains(1, "mm^5"), grains(1, "mm^5")), grains(1, "mm^5")), "high", (10, 0))


class TangledFaults(Case):
    PRODUCT = ("times", ONE, TWO)
    QUOTIENT = ("over", ONE, TWO)
    RATIO = ("over", GOOD, TWO)

    def test_sums(self):
        for word in ("plus", "minus"):
            for left, right in (
                (self.PRODUCT, self.PRODUCT), (self.PRODUCT, grains(1, "mm^2")), (grains(1, "mm^2"), self.PRODUCT), (self.QUOTIENT, self.QUOTIENT),
                (grains(1, "1"), self.QUOTIENT), (self.RATIO, grains(1, "ratio")), (self.QUOTIENT, self.RATIO),
            ):
                self.in_expression((word, left, right), "tangled", word)

    def test_products(self):
        for left, right in (
            (self.PRODUCT, ONE), (ONE, self.PRODUCT), (self.PRODUCT, self.PRODUCT), (self.QUOTIENT, ONE), (ONE, self.QUOTIENT),
            (self.QUOTIENT, self.PRODUCT), (self.PRODUCT, self.QUOTIENT), (self.QUOTIENT, self.RATIO),
        ):
            self.in_expression(("times", left, right), "tangled", "times")

    def test_quotients(self):
        for left, right in (
            (GOOD, self.PRODUCT), (ONE, self.PRODUCT), (self.PRODUCT, ONE), (self.PRODUCT, self.PRODUCT), (GOOD, self.QUOTIENT),
            (ONE, self.QUOTIENT), (self.QUOTIENT, ONE), (self.QUOTIENT, self.QUOTIENT), (self.PRODUCT, self.QUOTIENT), (self.QUOTIENT, self.PRODUCT),
        ):
            self.in_expression(("over", left, right), "tangled", "over")

    def test_limits_that_are_no_constants(self):
        for word, head, tail in (("judge", ("judge", "a"), ()), ("choose", ("choose",), ((), (), ()))):
            self.fault((head + (ONE, TWO, BAD) + tail,), 0, "tangled", word)
            self.fault((head + (ONE, GOOD, TWO) + tail,), 0, "tangled", word)
            self.fault((head + (ONE, ONE, ONE) + tail,), 0, "tangled", word)
            self.fault((head + (("times", ONE, TWO), ("times", ONE, TWO), grains(1, "mm^2")) + tail,), 0, "tangled", word)
        self.fault((let("a", ONE), ("judge", "b", ONE, GOOD, name("a"))), 1, "tangled", "judge")
        self.fine(let("a", ("times", GOOD, grains(2, "1"))), ("judge", "b", ONE, GOOD, name("a")))

    def test_offsets_are_sums(self):
        tool, timer = offset("tool", 3), offset("timer", -4)
        self.fine(let("a", ("plus", tool, ONE)), let("b", ("minus", GOOD, tool)), let("c", ("times", ("times", tool, timer), GOOD)))
        self.fine(let("a", ("over", ("over", tool, timer), GOOD)), let("b", ("over", GOOD, timer)), let("c", ("over", timer, GOOD)))
        self.in_expression(("times", ("times", tool, timer), timer), "tangled", "times")
        self.fault((("judge", "a", ONE, tool, BAD),), 0, "tangled", "judge")

    def test_names_have_the_kinds_of_their_expressions(self):
        self.fault((let("a", self.PRODUCT), let("b", ("times", name("a"), ONE))), 1, "tangled", "times")
        self.fine(let("a", GOOD), let("b", ("over", self.PRODUCT, name("a"))))


class NoughtFaults(Case):
    ZERO = grains(0)

    def test_below_over(self):
        for left in (GOOD, ONE, ("times", ONE, TWO), ("over", ONE, TWO), self.ZERO):
            self.in_expression(("over", left, self.ZERO), "nought", "over")
            self.in_expression(("over", left, grains(0, "s")), "nought", "over")
            self.in_expression(("over", left, ("minus", grains(10), grains(1, "mm"))), "nought", "over")
        self.fine(let("a", ("over", self.ZERO, GOOD)), let("b", ("over", ONE, ("minus", ONE, ONE))))

    def test_constants_are_reckoned_exactly(self):
        third = ("over", grains(1, "mm"), grains(3, "1"))
        thrice = ("times", third, grains(3, "1"))
        self.in_expression(("over", ONE, ("minus", thrice, grains(10))), "nought", "over")
        self.in_expression(("over", ONE, ("times", grains(5), ("minus", grains((2, 3), "s"), SECOND))), "nought", "over")
        self.fine(let("a", ("over", ONE, ("minus", thrice, grains((99, 10))))))
        self.fault((let("a", self.ZERO), let("b", ("times", name("a"), GOOD)), let("c", ("over", ONE, name("b")))), 2, "nought", "over")

    def test_limits_of_the_same_value(self):
        for word, head, tail in (("judge", ("judge", "a"), ()), ("choose", ("choose",), ((), (), ()))):
            self.fault((head + (ONE, GOOD, GOOD) + tail,), 0, "nought", word)
            self.fault((head + (ONE, grains(10), grains(1, "mm")) + tail,), 0, "nought", word)
            self.fault((head + (BEAT, grains((3, 2), "time"), grains(1, "s")) + tail,), 0, "nought", word)
            self.fault((head + (ONE, ("plus", GOOD, GOOD), BAD) + tail,), 0, "nought", word)
        self.fault((let("a", GOOD), ("judge", "b", ONE, name("a"), GOOD)), 1, "nought", "judge")
        self.fine(("judge", "a", ONE, BAD, GOOD), ("judge", "a", ONE, grains(0), grains(-1)))


class StrayFaults(Case):
    def test_a_leave_in_no_repeat(self):
        self.fault((("leave",),), 0, "stray", "leave")
        self.fault((STOP, choose((STOP,), (("leave",),))), 3, "stray", "leave")
        self.fault((("repeat", 2, (("leave",),)), ("leave",)), 2, "stray", "leave")
        self.fault((("repeat", 2, (choose((("leave",),)),)), choose((("leave",),))), 4, "stray", "leave")

    def test_a_leave_in_a_repeat(self):
        self.fine(("repeat", 2, (("leave",),)))
        self.fine(("repeat", 2, (STOP, choose((("leave",),), (("repeat", 1, (("leave",),)), ("leave",)), ()), ("leave",))))

    def test_a_repeat_in_the_procedure_that_calls(self):
        inner = procedure(("leave",), name="inner", features=(), roles=())
        outer = procedure(("repeat", 2, (called("inner"),)))
        self.faulty(inner, 0, "stray", "leave", outer)


class Order(Case):
    def test_in_one_expression_the_parts_go_first(self):
        zero = ("over", ONE, grains(0))
        self.in_expression(("plus", zero, BEAT), "nought", "over")
        self.in_expression(("plus", ("plus", ONE, BEAT), ("amount", (1, 1), "m")), "mixed", (LENGTH, TIME))
        self.in_expression(("plus", ("amount", (1, 1), "m"), ("plus", ONE, BEAT)), "unit", "m")
        self.in_expression(("times", ("times", ("times", ONE, TWO), ONE), sized("none")), "tangled", "times")
        self.in_expression(("plus", ("times", ONE, TWO), name("none")), "unknown", "none")

    def test_at_one_expression_kind_by_kind(self):
        product = ("times", ONE, TWO)
        self.in_expression(("plus", product, ONE), "mixed", ((2, 0), LENGTH))
        self.in_expression(("minus", ("over", ONE, TWO), product), "mixed", ((0, 0), (2, 0)))
        self.in_expression(("times", product, ("times", grains(1, "mm^8"), ONE)), "high", (11, 0))
        self.in_expression(("over", grains(1, "peak"), ("over", ONE, grains(0, "mm^2"))), "nought", "over")
        self.in_expression(("over", grains(1, "peak"), grains(0, "1/mm")), "high", (10, 0))
        self.in_expression(("over", grains(1, "1/peak"), product), "high", (-11, 0))

    def test_in_one_statement(self):
        self.fault((("judge", "a", ("plus", ONE, BEAT), sized("none"), BAD),), 0, "mixed", (LENGTH, TIME))
        self.fault((("judge", "a", ONE, SECOND, sized("none")),), 0, "unknown", "none")
        self.fault((("judge", "a", ONE, SECOND, TWO),), 0, "mixed", (LENGTH, TIME))
        self.fault((("judge", "a", ONE, TWO, SECOND),), 0, "mixed", (LENGTH, TIME))
        self.fault((("judge", "a", ONE, BEAT, grains(1, "1")),), 0, "mixed", (LENGTH, TIME))
        self.fault((("judge", "a", ONE, TWO, TWO),), 0, "tangled", "judge")
        self.fault((("read", "none", "timer"),), 0, "unknown", "none")
        self.fault((("tell", "a", ("times", ("times", ONE, TWO), ONE), "m"),), 0, "tangled", "times")
        self.fault((called("other", ("beat", "none"), ("tool",)),), 0, "unknown", "none")
        self.fault((called("none", ("beat",), ()),), 0, "unknown", "none")

    def test_a_statement_goes_ahead_of_its_bodies(self):
        self.fault((("choose", ONE, GOOD, GOOD, (("leave",),), (), ()),), 0, "nought", "choose")
        self.fault((("choose", ONE, TWO, BAD, (let("one", ONE),), (), ()),), 0, "tangled", "choose")

    def test_steps_go_into_bodies(self):
        self.fault((STOP, choose((STOP, STOP), (STOP,), (STOP, READ, ("leave",)))), 7, "stray", "leave")
        self.fault((choose((), (), (("repeat", 3, (STOP, ("leave",), choose((let("one", ONE),)))),)),), 5, "twice", "one")
        self.fault((choose((("repeat", 1, ()),), (("repeat", 1, (STOP,)), STOP), ()), ("leave",)), 5, "stray", "leave")

    def test_in_two_statements(self):
        self.fault((STOP, ("leave",), let("one", ONE)), 1, "stray", "leave")
        self.fault((("judge", "a", ONE, GOOD, GOOD), let("one", ONE)), 0, "nought", "judge")
        self.fault((choose((), (let("a", ONE), let("a", ONE))), ("leave",)), 2, "twice", "a")
        self.fault((choose((), (("leave",),), (let("one", ONE),)),), 1, "stray", "leave")

    def test_in_two_procedures(self):
        first = procedure(STOP, ("leave",), name="first")
        second = procedure(("leave",), name="second", features=(("a", "length"), ("a", "length")))
        self.faulty(first, 1, "stray", "leave", second)
        self.faulty(second, -1, "twice", "a", first)

    def test_parameters_go_ahead_of_the_body(self):
        self.faulty(procedure(("leave",), features=(("a", "length"), ("a", "length"))), -1, "twice", "a")

    def test_a_fault_goes_ahead_of_a_ring(self):
        ring = procedure(called("loop"), name="loop", features=(), roles=())
        bad = procedure(("leave",))
        for row in ((ring, bad), (bad, ring)):
            with self.assertRaises(BadStep):
                house(*row)
        with self.assertRaises(Ring):
            house(ring, OTHER)


def bare(word, *body):
    """A procedure that reads what it is handed on by no name of its own."""
    return (word, (("f", "length"),), (("d", "length"),), body)


def bare_call(word):
    return ("call", word, ("f",), ("d",))


TAKE = ("read", "f", "d")


class Rings(unittest.TestCase):
    def ring(self, word, *rows):
        with self.assertRaises(Ring) as caught:
            house(*rows)
        self.assertEqual(caught.exception.name, word)

    def test_of_one(self):
        self.ring("a", bare("a", bare_call("a")))
        self.ring("b", bare("a"), bare("b", STOP, ("repeat", 2, (bare_call("b"),))), bare("c"))

    def test_of_several(self):
        self.ring("a", bare("a", bare_call("b")), bare("b", bare_call("a")))
        self.ring("b", bare("b", bare_call("a")), bare("a", bare_call("b")))
        self.ring("a", *[bare(word, bare_call(later)) for word, later in zip("abcdefgh", "bcdefgha")])

    def test_one_that_only_calls_a_ring_is_none(self):
        self.ring("b", bare("a", bare_call("b")), bare("b", bare_call("c")), bare("c", bare_call("b")))
        self.ring("c", bare("a", bare_call("c")), bare("b"), bare("c", bare_call("c")))

    def test_calls_in_every_body(self):
        size = sized("f")
        for at in range(3):
            bodies = [(), (), ()]
            bodies[at] = (STOP, ("repeat", 1, (bare_call("b"),)))
            first = bare("a", ("choose", size, GOOD, BAD, *bodies))
            self.ring("a", first, bare("b", bare_call("a")))

    def test_calls_without_a_ring(self):
        rows = [bare("g")] + [bare(word, *[bare_call(later) for later in "bcdefg" if later > word]) for word in "abcdef"]
        made = house(*rows)
        self.assertEqual(readings(made, "a"), (0, 2 ** 6 - 1))

    def test_ahead_of_too_long(self):
        long = bare("a", *[TAKE] * 7)
        self.ring("b", long, bare("b", bare_call("b")))


class Lengths(unittest.TestCase):
    def counts(self, pair, word, *rows):
        found = readings(house(*rows), word)
        self.assertIs(type(found), tuple)
        self.assertEqual(found, pair)

    def too_long(self, word, *rows):
        with self.assertRaises(TooLong) as caught:
            house(*rows)
        self.assertEqual(caught.exception.name, word)

    def choice(self, *bodies):
        return ("choose", sized("f"), GOOD, BAD, *bodies)

    def test_single_statements(self):
        size = sized("f")
        for statement, many in (
            (TAKE, 1), (("let", "a", size), 0), (("tell", "a", size, "mm"), 0), (("judge", "a", size, GOOD, BAD), 0), (STOP, 0),
            (self.choice((), (), ()), 0), (("repeat", 4, ()), 0),
        ):
            self.counts((many, 1), "a", bare("a", statement))
            self.counts((2 * many, 2), "a", bare("a", statement, statement) if statement[0] != "let" else bare("a", STOP, STOP))
        self.counts((0, 0), "a", bare("a"))
        self.counts((0, 2), "a", bare("a", ("repeat", 1, (("leave",),))))

    def test_choose_has_the_greatest_of_its_bodies(self):
        for bodies in (((TAKE, TAKE), (STOP,) * 5, (TAKE,)), ((STOP,) * 5, (TAKE,), (TAKE, TAKE)), ((TAKE,), (TAKE, TAKE), (STOP,) * 5)):
            self.counts((2, 6), "a", bare("a", self.choice(*bodies)))
        self.counts((3, 7), "a", bare("a", TAKE, self.choice((TAKE, TAKE), (STOP,) * 5, ())))

    def test_repeat_multiplies(self):
        for turns in (1, 2, 3, 4):
            self.counts((turns, 1 + 2 * turns), "a", bare("a", ("repeat", turns, (TAKE, STOP))))
        self.counts((4, 1 + 2 * (1 + 2 * 1)), "a", bare("a", ("repeat", 2, (("repeat", 2, (TAKE,)),))))

    def test_call_has_those_of_the_procedure(self):
        inner = bare("b", TAKE, ("repeat", 2, (TAKE,)))
        self.counts((3, 4), "b", bare("a", bare_call("b")), inner)
        self.counts((3, 5), "a", bare("a", bare_call("b")), inner)
        self.counts((6, 11), "a", inner, bare("a", ("repeat", 2, (bare_call("b"),))))
        self.counts((3, 6), "a", bare("a", self.choice((bare_call("b"),), (TAKE,), (STOP, STOP))), inner)

    def test_6_and_7_readings(self):
        self.counts((6, 6), "a", bare("a", *[TAKE] * 6))
        self.too_long("a", bare("a", *[TAKE] * 7))
        self.counts((6, 7), "a", bare("a", ("repeat", 3, (TAKE, TAKE))))
        self.too_long("a", bare("a", ("repeat", 3, (TAKE, TAKE)), TAKE))
        self.too_long("a", bare("a", ("repeat", 2, (("repeat", 4, (TAKE,)),))))
        self.counts((6, 8), "a", bare("a", self.choice((TAKE,) * 5, (TAKE,) * 6, (TAKE,)), STOP))
        for at in range(3):
            bodies = [(TAKE,)] * 3
            bodies[at] = (TAKE,) * 6
            self.too_long("a", bare("a", TAKE, self.choice(*bodies)))
        self.counts((6, 8), "a", bare("a", bare_call("b"), TAKE), bare("b", *[TAKE] * 5, STOP))
        self.too_long("a", bare("a", bare_call("b"), TAKE), bare("b", *[TAKE] * 6))

    def test_120_and_121_steps(self):
        # 1 + 4 * (1 + 4 * 6) steps.
        turns = ("repeat", 4, (("repeat", 4, (STOP,) * 6),))
        self.counts((0, 101), "a", bare("a", turns))
        self.counts((0, 120), "a", bare("a", turns, *[STOP] * 19))
        self.too_long("a", bare("a", turns, *[STOP] * 20))
        for at in range(3):
            bodies = [(STOP,)] * 3
            bodies[at] = (turns, *[STOP] * 18)
            self.counts((0, 120), "a", bare("a", self.choice(*bodies)))
            bodies[at] = (turns, *[STOP] * 19)
            self.too_long("a", bare("a", self.choice(*bodies)))
        self.counts((0, 120), "a", bare("a", bare_call("b"), *[STOP] * 18), bare("b", turns))
        self.too_long("a", bare("a", bare_call("b"), *[STOP] * 19), bare("b", turns))

    def test_the_first_procedure_is_told(self):
        long = [TAKE] * 7
        self.too_long("b", bare("a"), bare("b", *long), bare("c", *long))
        self.too_long("c", bare("c", bare_call("b")), bare("b", *long))
        self.too_long("a", bare("b", *[TAKE] * 4), bare("a", bare_call("b"), bare_call("b")))

    def test_unknown(self):
        made = house(bare("a"))
        for word in ("b", "dial", "bore", "gauge", "length", "", None, 0, True, ["a"]):
            with self.assertRaises(Unknown) as caught:
                readings(made, word)
            self.assertEqual(caught.exception.name, word)


class Steps(unittest.TestCase):
    def test_in_order(self):
        size = sized("one")
        inner = ("repeat", 2, (READ, ("leave",)))
        choice = ("choose", size, GOOD, BAD, (STOP, inner), (), (READ, STOP))
        last = ("tell", "a", size, "mm")
        self.assertEqual(list(steps_of((READ, choice, last))), [READ, choice, STOP, inner, READ, ("leave",), READ, STOP, last])
        self.assertEqual(list(steps_of(())), [])
        self.assertEqual(list(steps_of((choice,)))[0], choice)

    def test_it_is_a_generator(self):
        made = steps_of((READ, STOP))
        self.assertEqual(next(made), READ)
        self.assertEqual(next(made), STOP)
        with self.assertRaises(StopIteration):
            next(made)


if __name__ == "__main__":
    unittest.main()
