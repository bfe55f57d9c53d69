"""[27], [28] how charters, procedures and expressions are read; [29] BadLine with the first word that cannot stand there."""

import random
import unittest

from ellwarden.charters import Charter
from ellwarden.errors import BadCharter, BadStep, Ring, TooLong, TooMany, Twice
from ellwarden.names import WORDS
from ellwarden.reading import read_charter, read_expression, read_procedure
from ellwarden.writing import write_charter, write_expression, write_procedure
from linesamples import LineCase, spoilt
from samples import FITONE, LINES, charter, device, feature, grains, sized

HOLE = sized("hole")
A, B, C, D = [("name", letter) for letter in "abcd"]
LEAF = ("(", "size", "offset", "name", "ratio")
OPERATOR = ("+", "-", "*", "/")
SIGNS = {"plus": "+", "minus": "-", "times": "*", "over": "/"}


def expression(text, behind=()):
    """The pattern of an expression of leaves and operators without parentheses; behind has the
    words that can stand behind it."""
    pattern = []
    words = text.split(" ")
    while words:
        word = words.pop(0)
        pattern.append((word, LEAF))
        if word == "size":
            pattern.append((words.pop(0), "name"))
        elif word == "offset":
            pattern += [(words.pop(0), "name"), (words.pop(0), "integer")]
        elif not word.isalpha():
            pattern.append((words.pop(0), "text"))
        if words:
            pattern.append((words.pop(0), OPERATOR + behind))
    return pattern


class Expressions(LineCase):
    def bad_text(self, text, word):
        self.bad(read_expression, text, 0, word)

    def test_leaves(self):
        for text, made in (
            ("1 mm", grains(1, "mm")), ("6/5 mm", grains((6, 5), "mm")), ("-6/5 mm/s*s^-1", grains((-6, 5), "mm/s*s^-1")), ("0 length", grains(0)),
            ("7 1", grains(7, "1")), ("size hole", HOLE), ("offset tool 0", ("offset", "tool", 0)), ("offset tool -1000", ("offset", "tool", -1000)),
            ("gap", ("name", "gap")), ("abcdefghijkl", ("name", "abcdefghijkl")),
            # Any word that is not empty stands for a unit text, and any integer for a mark.
            ("1 +", grains(1, "+")), ("1 size", grains(1, "size")), ("1 (", grains(1, "(")), ("1 no!unit", grains(1, "no!unit")), ("2 2", grains(2, "2")),
            ("offset tool 5000", ("offset", "tool", 5000)), ("offset tool " + "9" * 30, ("offset", "tool", 10 ** 30 - 1)),
            ("9" * 400 + " mm", grains(10 ** 400 - 1, "mm")), ("1/" + "9" * 400 + " mm", ("amount", (1, 10 ** 400 - 1), "mm")),
        ):
            self.assertEqual(read_expression(text), made)

    def test_operators_that_bind_alike(self):
        for text, made in (
            ("a + b - c", ("minus", ("plus", A, B), C)), ("a - b + c - d", ("minus", ("plus", ("minus", A, B), C), D)), ("a / b * c", ("times", ("over", A, B), C)),
            ("a * b / c / d", ("over", ("over", ("times", A, B), C), D)), ("a - ( b - c )", ("minus", A, ("minus", B, C))),
            ("a / ( b / c )", ("over", A, ("over", B, C))), ("( a - b ) - c", ("minus", ("minus", A, B), C)),
        ):
            self.assertEqual(read_expression(text), made)

    def test_operators_that_bind_tighter(self):
        for text, made in (
            ("a + b * c", ("plus", A, ("times", B, C))), ("a * b + c", ("plus", ("times", A, B), C)), ("a - b / c + d", ("plus", ("minus", A, ("over", B, C)), D)),
            ("( a + b ) * c", ("times", ("plus", A, B), C)), ("a * ( b + c ) / d", ("over", ("times", A, ("plus", B, C)), D)),
            ("a * b - c * d", ("minus", ("times", A, B), ("times", C, D))), ("1 mm * size hole + 2 + - 3 -", ("minus", ("plus", ("times", grains(1, "mm"), HOLE), grains(2, "+")), grains(3, "-"))),
        ):
            self.assertEqual(read_expression(text), made)

    def test_needless_parentheses(self):
        for text in ("( a )", "( ( a ) )", "( ( ( a ) ) )"):
            self.assertEqual(read_expression(text), A)
        self.assertEqual(read_expression("( a * b ) + ( ( c ) )"), ("plus", ("times", A, B), C))
        self.assertEqual(read_expression("( size hole ) - ( 1 mm ) / ( offset tool 3 )"), ("minus", HOLE, ("over", grains(1, "mm"), ("offset", "tool", 3))))

    def test_40_parentheses_deep_and_one_deeper(self):
        deep = "( " * 40 + "a" + " )" * 40
        self.assertEqual(read_expression(deep), A)
        self.assertEqual(read_expression(deep + " + " + deep), ("plus", A, A))
        self.assertEqual(read_expression("( " * 39 + "( a ) + ( b )" + " )" * 39), ("plus", A, B))
        self.bad_text("( " * 41 + "a" + " )" * 41, 40)
        self.bad_text("( " * 41, 40)
        self.bad_text(deep + " + ( " + deep + " )", 82 + 40)
        self.bad_text("( " * 40 + "a + ( b )" + " )" * 40, 42)
        self.bad_text("( " * 40 + "a * ( b )" + " )" * 40, 42)

    def test_parentheses_that_do_not_fit(self):
        for text, word in (("(", 1), (")", 0), ("( )", 1), ("( a", 2), ("a )", 1), ("( a ) )", 3), ("( ( a )", 4), ("( a b )", 2), ("a ( b )", 1), ("( a ) ( b )", 3), ("(a )", 0), ("( a)", 1)):
            self.bad_text(text, word)

    def test_words_that_cannot_stand_there(self):
        for text, word in (
            ("", 0), (" ", 0), ("  ", 0), (" a", 0), ("a ", 1), ("a  + b", 1), ("a +  b", 2), ("a + ", 2), ("a +", 2), ("+ a", 0), ("a + + b", 2), ("a b", 1), ("a 1", 1), ("1 mm mm", 2),
            ("1", 1), ("1 ", 1), ("1  mm", 1), ("size", 1), ("size 5", 1), ("size size", 1), ("size hole 5", 2), ("offset", 1), ("offset tool", 2), ("offset tool x", 2),
            ("offset tool 1/2", 2), ("offset 5 tool", 1), ("offset tool 05", 2), ("offset tool " + "9" * 31, 2), ("nobody", 0), ("ground", 0), ("size ground", 1), ("-", 0), ("- a", 0), ("2/4 mm", 0),
            ("01 mm", 0), ("-0 mm", 0), ("1/1 mm", 0), ("1.5 mm", 0), ("9" * 401 + " mm", 0), ("abcdefghijklm", 0), ("Gap", 0), ("a1", 0), ("a+b", 0), ("a + b good", 3), ("a in mm", 1), ("a % b", 1),
            ("plus a b", 1), ("a plus b", 1), ("a\tb", 0), ("a\n", 0),
        ):
            self.bad_text(text, word)

    def test_each_word_of_the_language(self):
        for word in WORDS:
            at = 1 if word in ("size", "offset") else 0
            self.bad_text(word, at)
            self.bad_text("a * " + word, 2 + at)
            self.bad_text("size " + word, 1)
            self.bad_text("a " + word, 1)
            self.assertEqual(read_expression("1 " + word), grains(1, word))

    def test_patterns(self):
        def one(lines):
            return read_expression(lines[0])
        for text in ("size hole", "offset tool -5 + 1 mm", "a * size b / 6/5 mm - c", "offset a 0 - offset b 0 - 0 length"):
            pattern = expression(text)
            for line, place in spoilt(pattern):
                self.bad(one, [line], 0, place)

    def test_300_and_301_words(self):
        text = " + ".join(["a"] * 149) + " + 1"
        self.assertEqual(len(text.split(" ")), 299)
        made = read_expression(text + " mm")
        for _ in range(149):
            self.assertEqual(made[0], "plus")
            made = made[1]
        self.assertEqual(made, A)
        self.bad_text(text + " mm +", 300)
        self.bad_text(text + " mm mm", 300)
        self.bad_text(" + ".join(["a"] * 150) + " + b", 300)
        self.bad_text(" + ".join(["a"] * 150) + " +", 300)
        self.bad_text(" + ".join(["a"] * 400), 300)
        self.bad_text("+" + " a" * 400, 0)

    def test_what_is_written_is_read_back(self):
        rng = random.Random(28)

        def made(depth):
            if depth == 0 or rng.random() < 0.2:
                return rng.choice((A, B, HOLE, ("offset", "tool", rng.randint(-9, 9)), grains((rng.randint(-5, 5) * 2 + 1, 4), "mm/s^2"), grains(rng.randint(-3, 3), "+")))
            return (rng.choice(list(SIGNS)), made(depth - 1), made(depth - 1))

        for _ in range(500):
            told = made(5)
            self.assertEqual(read_expression(write_expression(told)), told)

    def test_more_expressions_than_a_procedure_can_have(self):
        told = read_expression(" * ".join(["a"] * 100))
        self.assertEqual(write_expression(told), " * ".join(["a"] * 100))


MAIN = [
    "procedure main", "takes one length", "takes two time", "uses tool length", "read one by tool", "let gap be size one - offset tool 4", "tell x gap in mm",
    "judge x gap good 1 mm bad 6/5 mm", "choose gap good a bad b", "passed", "stop", "failed", "leave", "open", "call other takes one two uses tool", "end", "repeat 3", "end", "end",
]
STATEMENTS = ("read", "let", "tell", "judge", "choose", "repeat", "leave", "call", "stop")


class Procedures(LineCase):
    def test_the_example(self):
        self.assertEqual(read_procedure(LINES[7:]), FITONE)
        self.assertEqual(read_procedure(tuple(LINES[7:])), FITONE)

    def test_each_line(self):
        gap = ("name", "gap")
        mm = grains(1, "mm"), grains((6, 5), "mm")
        self.assertEqual(read_procedure(MAIN), (
            "main", (("one", "length"), ("two", "time")), (("tool", "length"),), (
                ("read", "one", "tool"), ("let", "gap", ("minus", sized("one"), ("offset", "tool", 4))), ("tell", "x", gap, "mm"), ("judge", "x", gap, *mm),
                ("choose", gap, A, B, (("stop",),), (("leave",),), (("call", "other", ("one", "two"), ("tool",)),)), ("repeat", 3, ()),
            ),
        ))

    def test_as_short_as_can_be(self):
        self.assertEqual(read_procedure(["procedure main", "end"]), ("main", (), (), ()))

    def test_empty_lines_are_skipped_and_count(self):
        lines = [""]
        for line in MAIN:
            lines += [line, "", ""]
        self.assertEqual(read_procedure(lines), read_procedure(MAIN))
        self.bad(read_procedure, ["", "", "procedure main", "", "ends"], 4, 0)
        self.bad(read_procedure, ["", "procedure main", "", ""], 4, 0)
        self.bad(read_procedure, ["procedure main", " ", "end"], 1, 0)

    def test_calls(self):
        for line, features, roles in (
            ("call other", (), ()), ("call other takes a", ("a",), ()), ("call other uses b", (), ("b",)), ("call other takes a c a uses b d", ("a", "c", "a"), ("b", "d")),
        ):
            self.assertEqual(read_procedure(["procedure main", line, "end"])[3], (("call", "other", features, roles),))
        for line, word in (
            ("call", 1), ("call other takes", 3), ("call other uses", 3), ("call other takes uses b", 3), ("call other takes a uses", 5), ("call other a", 2), ("call other uses b takes a", 4),
            ("call other takes a takes b", 4), ("call other uses b uses c", 4), ("call other takes a uses b uses c", 6), ("call other takes a 5", 4), ("call other takes a nobody", 4), ("call takes a", 1),
            ("call other uses b end", 4), ("call other  takes a", 2), ("call other takes  a", 3), ("call other takes a ", 4),
        ):
            self.bad(read_procedure, ["procedure main", line, "end"], 1, word)

    def test_bodies_of_choose(self):
        read, stop = ("read", "a", "b"), ("stop",)
        for lines, bodies in (
            ([], ((), (), ())), (["passed"], ((), (), ())), (["passed", "failed", "open"], ((), (), ())), (["failed", "stop"], ((), (stop,), ())),
            (["passed", "read a by b", "stop", "open", "", "stop"], ((read, stop), (), (stop,))), (["open", "read a by b"], ((), (), (read,))),
        ):
            self.assertEqual(read_procedure(["procedure main", "choose a good b bad c", *lines, "end", "end"])[3], (("choose", A, B, C, *bodies),))
        for lines, at in (
            (["failed", "passed"], 1), (["open", "failed"], 1), (["open", "passed"], 1), (["passed", "passed"], 1), (["open", "stop", "open"], 2), (["stop"], 0), (["read a by b", "passed"], 0),
            (["passed", "stop", "failed", "passed"], 3), (["end", "passed"], 1), (["opens"], 0),
        ):
            self.bad(read_procedure, ["procedure main", "choose a good b bad c", *lines, "end", "end", "end"], at + 2, 0)
        for word in ("passed", "failed", "open"):
            self.bad(read_procedure, ["procedure main", "choose a good b bad c", word + " stop", "end", "end"], 2, 1)
            self.bad(read_procedure, ["procedure main", word, "end"], 1, 0)
            self.bad(read_procedure, ["procedure main", "repeat 2", word, "end", "end"], 2, 0)

    def test_every_line_spoilt(self):
        head = STATEMENTS + ("end",)
        limits = ("good",)
        patterns = [
            [("procedure", "procedure"), ("main", "name")],
            [("takes", STATEMENTS + ("takes", "uses", "end")), ("one", "name"), ("length", "name")],
            [("takes", STATEMENTS + ("takes", "uses", "end")), ("two", "name"), ("time", "name")],
            [("uses", STATEMENTS + ("takes", "uses", "end")), ("tool", "name"), ("length", "name")],
            [("read", head + ("uses",)), ("one", "name"), ("by", "by"), ("tool", "name")],
            [("let", head), ("gap", "name"), ("be", "be")] + expression("size one - offset tool 4"),
            [("tell", head), ("x", "name")] + expression("gap") + [("in", OPERATOR + ("in",)), ("mm", "text")],
            [("judge", head), ("x", "name")] + expression("gap") + [("good", OPERATOR + limits)] + expression("1 mm") + [("bad", OPERATOR + ("bad",))] + expression("6/5 mm"),
            [("choose", head)] + expression("gap") + [("good", OPERATOR + limits)] + expression("a") + [("bad", OPERATOR + ("bad",))] + expression("b"),
            [("passed", ("passed", "failed", "open", "end"))],
            [("stop", head)],
            [("failed", head + ("failed", "open"))],
            [("leave", head)],
            [("open", head + ("open",))],
            None,
            [("end", head)],
            [("repeat", head), ("3", "integer")],
            [("end", head)],
            [("end", head)],
        ]
        ends = {5: (5,), 7: ()}
        for at, pattern in enumerate(patterns):
            if pattern is not None:
                self.bad_line(read_procedure, MAIN, at, pattern, ends.get(at, ()), "zzz")

    def test_names(self):
        for word in ("abcdefghijkl", "a", "z"):
            self.assertEqual(read_procedure([f"procedure {word}", f"takes {word} {word}", f"read {word} by {word}", "end"]), (word, ((word, word),), (), (("read", word, word),)))
        for word in WORDS:
            self.bad(read_procedure, [f"procedure {word}", "end"], 0, 1)
            self.bad(read_procedure, ["procedure main", f"read a by {word}", "end"], 1, 3)

    def test_each_word_at_the_start_of_a_line(self):
        for word in WORDS + ("zzz", "(", "5", ""):
            if word not in STATEMENTS + ("end", "takes", "uses"):
                self.bad(read_procedure, ["procedure main", word + " a", "end"], 1, 0)
            if word not in STATEMENTS + ("end",):
                self.bad(read_procedure, ["procedure main", "stop", word + " a", "end"], 2, 0)
            if word != "procedure":
                self.bad(read_procedure, [word + " main", "end"], 0, 0)
        self.bad(read_procedure, ["procedure main", "uses a b", "takes a b", "end"], 2, 0)

    def test_lines_that_end_too_early(self):
        for many in range(len(MAIN)):
            self.bad(read_procedure, MAIN[:many], many, 0)
            self.bad(read_procedure, MAIN[:many] + ["", ""], many + 2, 0)

    def test_lines_behind_the_end(self):
        for line in ("end", "stop", "procedure other", "x", " "):
            self.bad(read_procedure, MAIN + [line], len(MAIN), 0)
            self.bad(read_procedure, MAIN + ["", line], len(MAIN) + 1, 0)
        self.assertEqual(read_procedure(MAIN + ["", ""]), read_procedure(MAIN))

    def test_blocks_40_deep_and_41(self):
        body = ()
        for _ in range(40):
            body = (("repeat", 2, body),)
        self.assertEqual(read_procedure(["procedure main"] + ["repeat 2"] * 40 + ["end"] * 41), ("main", (), (), body))
        self.bad(read_procedure, ["procedure main"] + ["repeat 2"] * 41 + ["end"] * 42, 41, 0)
        self.bad(read_procedure, ["procedure main"] + ["repeat 2"] * 40 + ["choose a good b bad c"] + ["end"] * 42, 41, 0)
        choices = ["choose a good b bad c", "open"]
        self.assertEqual(write_procedure(read_procedure(["procedure main"] + choices * 40 + ["stop"] + ["end"] * 41))[1:81], choices * 40)
        self.bad(read_procedure, ["procedure main"] + choices * 40 + ["choose"], 81, 0)
        self.bad(read_procedure, ["procedure main"] + choices * 20 + ["repeat 9"] * 21, 61, 0)
        # Blocks that have ended are no matter.
        self.assertEqual(len(read_procedure(["procedure main"] + (["repeat 2"] * 40 + ["end"] * 40) * 2 + ["end"])[3]), 2)

    def test_300_and_301_words(self):
        line = "call other takes" + " a" * 297
        self.assertEqual(len(read_procedure(["procedure main", line, "end"])[3][0][2]), 297)
        self.bad(read_procedure, ["procedure main", line + " a", "end"], 1, 300)
        self.bad(read_procedure, ["procedure main", line + " uses", "end"], 1, 300)
        self.bad(read_procedure, ["procedure main", line[:-2] + " uses b", "end"], 1, 300)
        self.bad(read_procedure, ["procedure main", line + " 5" * 9, "end"], 1, 300)

    def test_what_is_bad_but_no_matter_of_bad_line(self):
        lines = ["procedure main", "takes a zzz", "takes a zzz", "repeat 99", "leave", "end", "leave", "call nothing takes b", "tell x nothing in ((", "read a by a", "end"]
        self.assertEqual(read_procedure(lines), ("main", (("a", "zzz"), ("a", "zzz")), (), (
            ("repeat", 99, (("leave",),)), ("leave",), ("call", "nothing", ("b",), ()), ("tell", "x", ("name", "nothing"), "(("), ("read", "a", "a"),
        )))
        for number in ("0", "-5", "9" * 30):
            self.assertEqual(read_procedure(["procedure main", f"repeat {number}", "end", "end"])[3], (("repeat", int(number), ()),))


HEADS = ("base", "unit", "device", "feature", "role", "job", "procedure")
WHOLE = [
    "days 3", "base length", "base mass", "unit mm length 1000", "unit odd mass/length^2 1/60", "device arm length -5 9 10 10 -50 50 0 0 0 -4 9", "device dial mass 0 9 10 10 -50 50 0 0 0",
    "feature slot length -4 -1 2 3", "role gauge length", "role scale mass", "job fit", "procedure main", "uses tool length", "end", "procedure other", "end",
]


class Charters(LineCase):
    def test_the_example(self):
        self.assertEqual(read_charter(LINES), charter())
        self.assertIsInstance(read_charter(LINES), Charter)
        self.assertEqual(read_charter(tuple(LINES)), charter())

    def test_each_line(self):
        self.assertEqual(read_charter(WHOLE), Charter(
            days=3, bases=("length", "mass"), units=(("mm", (1, 0), (1000, 1)), ("odd", (-2, 1), (1, 60))),
            devices=(device("arm", low=-5, cuts=(-4, 9)), device("dial", "mass")), features=(feature("slot", least=-4, greatest=-1, fall=2, rise=3),),
            roles=(("gauge", "length"), ("scale", "mass")), jobs=("fit",), procedures=(("main", (), (("tool", "length"),), ()), ("other", (), (), ())),
        ))

    def test_as_few_lines_as_can_be(self):
        self.assertEqual(read_charter(["days 20", "base time"]), Charter(days=20, bases=("time",)))

    def test_dimensions_in_any_form(self):
        for text, dimension in (("1", (0, 0)), ("length*mass/length", (0, 1)), ("1/mass^-2", (0, 2)), ("length^-9", (-9, 0))):
            self.assertEqual(read_charter(["days 3", "base length", "base mass", f"unit mm {text} 1/3"]).units, (("mm", dimension, (1, 3)),))

    def test_empty_lines_are_skipped_and_count(self):
        lines = []
        for line in WHOLE:
            lines += ["", line]
        self.assertEqual(read_charter(lines + [""]), read_charter(WHOLE))
        self.bad(read_charter, ["", "days 3", "", "base length", "", "days 4"], 5, 0)

    def test_what_is_written_is_read_back(self):
        for made in (charter(), read_charter(WHOLE), charter(devices=(device("one", cuts=(2, 3)), device("two", low=-9, cuts=(-3,))), procedures=())):
            self.assertEqual(read_charter(write_charter(made)), made)
            self.assertEqual(write_charter(read_charter(write_charter(made))), write_charter(made))

    def test_every_line_spoilt(self):
        def head(word):
            return HEADS[HEADS.index(word):]
        numbers = [("-5", "integer"), ("9", "integer"), ("10", "integer"), ("10", "integer"), ("-50", "integer"), ("50", "integer"), ("0", "integer"), ("0", "integer"), ("0", "integer")]
        patterns = [
            [("days", "days"), ("3", "integer")],
            [("base", HEADS), ("length", "name")],
            [("base", HEADS), ("mass", "name")],
            [("unit", HEADS), ("mm", "name"), ("length", "dimension"), ("1000", "ratio")],
            [("unit", head("unit")), ("odd", "name"), ("mass/length^2", "dimension"), ("1/60", "ratio")],
            [("device", head("unit")), ("arm", "name"), ("length", "name"), *numbers, ("-4", "integer"), ("9", "integer")],
            [("device", head("device")), ("dial", "name"), ("mass", "name"), ("0", "integer"), *numbers[1:]],
            [("feature", head("device")), ("slot", "name"), ("length", "name"), ("-4", "integer"), ("-1", "integer"), ("2", "integer"), ("3", "integer")],
            [("role", head("feature")), ("gauge", "name"), ("length", "name")],
            [("role", head("role")), ("scale", "name"), ("mass", "name")],
            [("job", head("role")), ("fit", "name")],
            [("procedure", head("job")), ("main", "name")],
            [("uses", STATEMENTS + ("takes", "uses", "end")), ("tool", "name"), ("length", "name")],
            [("end", STATEMENTS + ("uses", "end"))],
            [("procedure", "procedure"), ("other", "name")],
        ]
        for at, pattern in enumerate(patterns):
            self.bad_line(read_charter, WHOLE, at, pattern, (12, 13) if at == 5 else (), "zzz")

    def test_parts_out_of_order(self):
        lines = ["base length", "unit mm length 5", "device dial length 0 9 10 10 0 9 0 0 0", "feature slot length 0 9 0 0", "role gauge length", "job fit", "procedure main"]
        for later in range(len(lines)):
            for earlier in range(later):
                ahead = ["days 3", "base length"] + lines[1:later + 1] + (["end"] if later == 6 else [])
                self.bad(read_charter, ahead + [lines[earlier]], len(ahead), 0)
        self.bad(read_charter, ["days 3", "base length", "days 3"], 2, 0)

    def test_days_must_be_there(self):
        for lines, at in (([], 0), ([""], 1), (["", ""], 2), (["base length"], 0), (["", "base length"], 1), (["day 3"], 0), ([" days 3"], 0)):
            self.bad(read_charter, lines, at, 0)
        self.bad(read_charter, ["days"], 0, 1)
        self.bad(read_charter, ["days 3 3"], 0, 2)

    def test_lines_that_belong_to_no_charter(self):
        for line in ("news 0 jolt bore 1", "card 1", "end", "stop", "spot bore 0 0", "zzz", " "):
            self.bad(read_charter, LINES + [line], len(LINES), 0)
            self.bad(read_charter, ["days 3", "base length", line], 2, 0)

    def test_lines_that_end_too_early(self):
        for many in range(8, len(LINES)):
            self.bad(read_charter, LINES[:many], many, 0)
        for many in range(2, 8):
            self.assertIsInstance(read_charter(LINES[:many]), Charter)

    def test_integers_of_30_and_31_digits(self):
        for sign in ("", "-"):
            line = f"feature slot length {sign}{'9' * 30} 5 0 0"
            self.raises(BadCharter, lambda: read_charter(["days 3", "base length", line]), part="features", place=0)
            self.bad(read_charter, ["days 3", "base length", line.replace("9", "99", 1)], 2, 3)
        self.raises(BadCharter, lambda: read_charter(["days " + "9" * 30]), part="days", place=-1)
        self.bad(read_charter, ["days " + "9" * 31], 0, 1)

    def test_300_and_301_words(self):
        line = "device dial length 0 9 10 10 0 9 0 0 0" + " 5" * 288
        self.raises(BadCharter, lambda: read_charter(["days 3", "base length", line]), part="devices", place=0)
        self.bad(read_charter, ["days 3", "base length", line + " 5"], 2, 300)
        self.bad(read_charter, ["days 3", "base length", line + " x"], 2, 300)
        self.bad(read_charter, ["days 3", "base length", line[:-2] + " x 5"], 2, 299)

    def test_bad_line_ahead_of_what_the_charter_raises(self):
        for line in ("days 99", "base length", "unit length length 0", "role gauge zzz", "job length"):
            lines = ["days 3", "base length", "base length", line]
            if line == "days 99":
                lines = [line, "base length", "base length"]
            self.bad(read_charter, lines + ["procedure main", "leave", "ends"], len(lines) + 2, 0)
            with self.assertRaises((BadCharter, Twice)):
                read_charter(lines)

    def test_what_is_bad_but_no_matter_of_bad_line(self):
        start = ["days 3", "base length"]
        for error, lines, kept in (
            (BadCharter, ["days 0"], {"part": "days", "place": -1}), (BadCharter, ["days -3"], {"part": "days", "place": -1}), (TooMany, ["days 3"], {"kind": "bases"}),
            (TooMany, ["days 3"] + [f"base {name}" for name in "abcde"], {"kind": "bases"}), (Twice, start + ["base length"], {"name": "length"}),
            (Twice, start + ["base length", "unit mm length 1"], {"name": "length"}), (BadCharter, start + ["unit mm length -1"], {"part": "units", "place": 0}),
            (BadCharter, start + ["unit mm length 1", "unit cm length 0"], {"part": "units", "place": 1}), (BadCharter, start + ["unit mm length " + "9" * 13], {"part": "units", "place": 0}),
            (BadCharter, start + ["device dial zzz 0 9 10 10 0 9 0 0 0"], {"part": "devices", "place": 0}), (BadCharter, start + ["device dial length 9 0 10 10 0 9 0 0 0"], {"part": "devices", "place": 0}),
            (BadCharter, start + ["device dial length 0 9 10 10 0 9 0 0 0 4 5 6"], {"part": "devices", "place": 0}), (BadCharter, start + ["role gauge zzz"], {"part": "roles", "place": 0}),
            (Twice, start + ["job fit", "job fit"], {"name": "fit"}), (TooMany, start + [f"job {name}" for name in "abcdefg"], {"kind": "jobs"}),
            (BadCharter, start + ["procedure main", "repeat 5", "end", "end"], {"part": "procedures", "place": 0}), (BadStep, start + ["procedure main", "leave", "end"], {"kind": "stray"}),
            (BadStep, start + ["procedure main", "tell x 1 ( in length", "end"], {"kind": "unit", "about": "("}), (BadStep, start + ["procedure main", "read a by b", "end"], {"kind": "unknown"}),
            (Ring, start + ["procedure main", "call main", "end"], {"name": "main"}), (TooLong, start + ["procedure main", "takes a length", "uses b length"] + ["read a by b"] * 7 + ["end"], {"name": "main"}),
            (BadCharter, start + ["procedure main"] + ["repeat 1"] * 5 + ["end"] * 6, {"part": "procedures", "place": 0}),
        ):
            self.raises(error, lambda: read_charter(lines), **kept)


if __name__ == "__main__":
    unittest.main()
