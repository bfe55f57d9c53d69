"""[27], [28] how charters, procedures and expressions are written."""

import random
import unittest

from ellwarden.charters import Charter
from ellwarden.writing import write_charter, write_expression, write_procedure
from samples import FITONE, LINES, charter, device, feature, grains, procedure, sized

SIGNS = {"plus": "+", "minus": "-", "times": "*", "over": "/"}
HOLE = sized("hole")
GOOD, BAD = grains(1, "mm"), grains((6, 5), "mm")
STOP = ("stop",)
READ = ("read", "hole", "tool")


def name(word):
    return ("name", word)


class Reader:
    """Reads the words of an expression of names, the plain way."""

    def __init__(self, words):
        self.words = words
        self.at = 0

    def next_word(self):
        return self.words[self.at] if self.at < len(self.words) else ""

    def read(self, signs=("+-", "*/")):
        if not signs:
            return self.leaf()
        made = self.read(signs[1:])
        while self.next_word() and self.next_word() in signs[0]:
            sign = self.next_word()
            self.at += 1
            word = {sign: word for word, sign in SIGNS.items()}[sign]
            made = (word, made, self.read(signs[1:]))
        return made

    def leaf(self):
        word = self.next_word()
        self.at += 1
        if word != "(":
            return name(word)
        made = self.read()
        assert self.next_word() == ")"
        self.at += 1
        return made


def read(text):
    reader = Reader(text.split(" "))
    made = reader.read()
    assert reader.at == len(reader.words)
    return made


def pairs(words):
    """The places of parentheses that belong together."""
    opened = []
    for at, word in enumerate(words):
        if word == "(":
            opened.append(at)
        if word == ")":
            yield opened.pop(), at


class Expressions(unittest.TestCase):
    def test_leaves(self):
        for expression, text in (
            (grains(1, "mm"), "1 mm"), (grains((6, 5), "mm"), "6/5 mm"), (grains((-6, 5), "mm/s*s^-1"), "-6/5 mm/s*s^-1"), (grains(0), "0 length"),
            (grains(7, "1"), "7 1"), (HOLE, "size hole"), (("offset", "tool", 0), "offset tool 0"), (("offset", "tool", -1000), "offset tool -1000"),
            (("offset", "tool", 12), "offset tool 12"), (name("gap"), "gap"),
        ):
            self.assertEqual(write_expression(expression), text)

    def test_each_operator(self):
        for word, sign in SIGNS.items():
            self.assertEqual(write_expression((word, HOLE, GOOD)), f"size hole {sign} 1 mm")
            self.assertEqual(write_expression((word, name("a"), ("offset", "tool", -3))), f"a {sign} offset tool -3")

    def test_each_operator_on_the_left_of_each_other(self):
        for outer, sign in SIGNS.items():
            for inner, other in SIGNS.items():
                text = write_expression((outer, (inner, name("a"), name("b")), name("c")))
                if outer in ("times", "over") and inner in ("plus", "minus"):
                    self.assertEqual(text, f"( a {other} b ) {sign} c")
                else:
                    self.assertEqual(text, f"a {other} b {sign} c")

    def test_each_operator_on_the_right_of_each_other(self):
        for outer, sign in SIGNS.items():
            for inner, other in SIGNS.items():
                text = write_expression((outer, name("a"), (inner, name("b"), name("c"))))
                if outer in ("plus", "minus") and inner in ("times", "over"):
                    self.assertEqual(text, f"a {sign} b {other} c")
                else:
                    self.assertEqual(text, f"a {sign} ( b {other} c )")

    def test_both_sides(self):
        a, b, c, d = [name(letter) for letter in "abcd"]
        for expression, text in (
            (("plus", ("times", a, b), ("over", c, d)), "a * b + c / d"),
            (("times", ("plus", a, b), ("minus", c, d)), "( a + b ) * ( c - d )"),
            (("minus", ("minus", a, b), ("minus", c, d)), "a - b - ( c - d )"),
            (("over", ("over", a, b), ("over", c, d)), "a / b / ( c / d )"),
            (("over", a, ("minus", b, ("times", c, d))), "a / ( b - c * d )"),
            (("times", a, ("times", b, ("plus", c, d))), "a * ( b * ( c + d ) )"),
            (("minus", ("plus", ("minus", a, b), c), d), "a - b + c - d"),
        ):
            self.assertEqual(write_expression(expression), text)

    def test_parentheses_just_where_they_are_needed(self):
        rng = random.Random(8)

        def made(depth):
            if depth == 0 or rng.random() < 0.2:
                return name(rng.choice("abcdef"))
            return (rng.choice(list(SIGNS)), made(depth - 1), made(depth - 1))

        for _ in range(400):
            expression = made(4)
            text = write_expression(expression)
            self.assertEqual(read(text), expression)
            words = text.split(" ")
            self.assertNotIn("", words)
            for first, last in pairs(words):
                fewer = [word for at, word in enumerate(words) if at not in (first, last)]
                self.assertNotEqual(read(" ".join(fewer)), expression)

    def test_told_twice_alike(self):
        expression = ("times", ("plus", HOLE, GOOD), ("minus", HOLE, BAD))
        self.assertEqual(write_expression(expression), write_expression(expression))


class Procedures(unittest.TestCase):
    def lines(self, *body, **parts):
        written = write_procedure(procedure(*body, **{"features": (), "roles": (), **parts}))
        self.assertIs(type(written), list)
        return written

    def body(self, *body):
        written = self.lines(*body)
        self.assertEqual((written[0], written[-1]), ("procedure main", "end"))
        return written[1:-1]

    def test_the_example(self):
        self.assertEqual(write_procedure(FITONE), LINES[7:])

    def test_parameters(self):
        self.assertEqual(self.lines(), ["procedure main", "end"])
        self.assertEqual(
            self.lines(STOP, name="work", features=(("b", "length"), ("a", "time")), roles=(("d", "time"), ("c", "length"))),
            ["procedure work", "takes b length", "takes a time", "uses d time", "uses c length", "stop", "end"],
        )

    def test_plain_statements(self):
        for statement, line in (
            (READ, "read hole by tool"), (("let", "a", ("plus", HOLE, GOOD)), "let a be size hole + 1 mm"),
            (("tell", "x", ("over", HOLE, GOOD), "mm/s*s^-1"), "tell x size hole / 1 mm in mm/s*s^-1"), (("tell", "x", HOLE, "1"), "tell x size hole in 1"),
            (("judge", "x", HOLE, GOOD, ("minus", BAD, GOOD)), "judge x size hole good 1 mm bad 6/5 mm - 1 mm"), (("leave",), "leave"), (STOP, "stop"),
            (("judge", "x", HOLE, BAD, GOOD), "judge x size hole good 6/5 mm bad 1 mm"),
        ):
            self.assertEqual(self.body(statement), [line])
            self.assertEqual(self.body(statement, STOP, statement), [line, "stop", line])

    def test_calls(self):
        for features, roles, line in (
            ((), (), "call other"), (("a",), (), "call other takes a"), ((), ("b",), "call other uses b"),
            (("a", "c", "a"), ("b", "d"), "call other takes a c a uses b d"),
        ):
            self.assertEqual(self.body(("call", "other", features, roles)), [line])

    def test_repeat(self):
        self.assertEqual(self.body(("repeat", 3, (READ, ("leave",)))), ["repeat 3", "read hole by tool", "leave", "end"])
        self.assertEqual(self.body(("repeat", 1, ())), ["repeat 1", "end"])
        self.assertEqual(self.body(("repeat", 4, (("repeat", 2, ()), STOP))), ["repeat 4", "repeat 2", "end", "stop", "end"])

    def test_choose(self):
        head = "choose size hole good 1 mm bad 6/5 mm"
        first, second, third = (STOP,), (READ, STOP), (("leave",),)
        for bodies, lines in (
            (((), (), ()), []), ((first, (), ()), ["passed", "stop"]), (((), second, ()), ["failed", "read hole by tool", "stop"]),
            (((), (), third), ["open", "leave"]), ((first, (), third), ["passed", "stop", "open", "leave"]),
            ((first, second, third), ["passed", "stop", "failed", "read hole by tool", "stop", "open", "leave"]),
            ((third, first, ()), ["passed", "leave", "failed", "stop"]),
        ):
            self.assertEqual(self.body(("choose", HOLE, GOOD, BAD, *bodies)), [head, *lines, "end"])

    def test_bodies_within_bodies(self):
        inner = ("choose", HOLE, BAD, GOOD, (), (STOP,), ())
        body = ("repeat", 2, (READ, ("choose", HOLE, GOOD, BAD, (), (), (inner, ("repeat", 3, (("leave",),)))), STOP))
        self.assertEqual(self.body(body), [
            "repeat 2", "read hole by tool", "choose size hole good 1 mm bad 6/5 mm", "open", "choose size hole good 6/5 mm bad 1 mm",
            "failed", "stop", "end", "repeat 3", "leave", "end", "end", "stop", "end",
        ])


class Charters(unittest.TestCase):
    def test_the_example(self):
        self.assertEqual(write_charter(charter()), LINES)
        self.assertIs(type(write_charter(charter())), list)

    def test_all_parts(self):
        made = Charter(
            days=3,
            bases=("length", "mass", "time"),
            units=(("mm", (1, 0, 0), (1000, 1)), ("force", (1, 1, -2), (7, 3)), ("per", (0, 0, -1), (1, 60)), ("pure", (0, 0, 0), (1, 100))),
            devices=(
                device("arm", low=-5, high=9, cuts=(-4, 9)), device("dial", "mass", -7, -6, 1, 20, -3, -2, 4, 5, 6),
                device("cut", low=0, high=9, cuts=(3,)),
            ),
            features=(feature("slot", least=-4, greatest=-1, fall=2, rise=3), feature("load", "mass")),
            roles=(("gauge", "length"), ("scale", "mass")),
            jobs=("fit", "weigh"),
            procedures=(FITONE, ("none", (), (), ())),
        )
        lines = [
            "days 3", "base length", "base mass", "base time", "unit mm length 1000", "unit force length*mass/time^2 7/3", "unit per 1/time 1/60",
            "unit pure 1 1/100", "device arm length -5 9 10 10 -50 50 0 0 0 -4 9", "device dial mass -7 -6 1 20 -3 -2 4 5 6",
            "device cut length 0 9 10 10 -50 50 0 0 0 3", "feature slot length -4 -1 2 3", "feature load mass 0 100 0 0", "role gauge length",
            "role scale mass", "job fit", "job weigh", *write_procedure(FITONE), "procedure none", "end",
        ]
        self.assertEqual(write_charter(made), lines)
        self.assertEqual(write_charter(made), write_charter(made.changed()))

    def test_as_few_parts_as_can_be(self):
        self.assertEqual(write_charter(Charter(days=20, bases=("time",))), ["days 20", "base time"])

    def test_lines_are_not_empty_and_have_one_blank_between_words(self):
        for line in write_charter(charter()):
            self.assertNotIn("", line.split(" "))

    def test_lists_belong_to_the_caller(self):
        made = charter()
        write_charter(made).clear()
        write_procedure(FITONE).append("more")
        self.assertEqual(write_charter(made), LINES)


if __name__ == "__main__":
    unittest.main()
