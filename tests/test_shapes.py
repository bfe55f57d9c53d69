"""[23], [24] the forms of procedures, statements and expressions, as BadCharter tells them."""

import unittest

from ellwarden.errors import BadCharter
from samples import charter, grains, sized

NO_NAMES = (None, 1, True, "", "Hole", "hole1", "abcdefghijklm", "ground", "size", "a b", ("hole",), ["hole"])
NO_TEXTS = (None, 1, True, ("mm",), ["mm"], b"mm")
NO_RATIOS = (None, 1, "1", [1, 1], (2, 2), (1, 0), (1,), (True, 1), (1, True), (1.0, 1), 1.0)
NO_BODIES = (None, [], "stop", 1, ("stop",), [("stop",)], (None,), (["stop"],), ((),))
HOLE = sized("hole")
GOOD, BAD = grains(1), grains(2)
STOP = ("stop",)


def work(*body, features=(("hole", "length"),), roles=(("tool", "length"),), name="work"):
    return (name, features, roles, body)


def tower(many, leaf=HOLE):
    """An expression of so many expressions, an odd number."""
    made = leaf
    for _ in range(many // 2):
        made = ("plus", made, leaf)
    return made


class Shapes(unittest.TestCase):
    def taken(self, *body, **parts):
        entry = work(*body, **parts)
        self.assertEqual(charter(procedures=(entry,)).procedures, (entry,))

    def refused_entry(self, entry):
        for row, place in (((entry,), 0), ([work(name="first"), entry, None], 1)):
            with self.assertRaises(BadCharter, msg=repr(entry)) as caught:
                charter(procedures=row)
            self.assertEqual((caught.exception.part, caught.exception.place), ("procedures", place), repr(entry))

    def refused(self, *body, **parts):
        self.refused_entry(work(*body, **parts))

    def test_the_parts_of_a_procedure(self):
        self.taken()
        self.taken(features=(), roles=())
        for name in NO_NAMES:
            self.refused(name=name)
        for body in NO_BODIES:
            self.refused_entry(("work", (), (), body))

    def test_parameters(self):
        for word in ("features", "roles"):
            for pairs in (
                None, [], [("hole", "length")], "hole", ("hole",), (["hole", "length"],), (("hole",),), (("hole", "length", 1),),
                (("hole", "mass"),), (("hole", "mm"),), (("hole", None),), (("hole", ["length"]),), (None,), (("hole", "length"), "hole"),
                ("hole", "length"), 1, {"hole": "length"},
            ):
                self.refused(**{word: pairs})
            for name in NO_NAMES:
                self.refused(**{word: ((name, "length"),)})

    def test_4_and_5_parameters(self):
        pairs = tuple((letter, "length") for letter in "abcdefghij")
        self.taken(features=pairs[:4], roles=pairs[4:8])
        self.refused(features=pairs[:5])
        self.refused(roles=pairs[:5])

    def test_statements_of_other_kinds(self):
        for statement in (
            None, 1, "stop", (), ["stop"], ("halt",), (None,), (1,), (("stop",),), ("Stop",), ("",), (["stop"],), ("amount", (1, 1), "mm"),
            ("size", "hole"), ("take", "hole", "tool"), (True,), ("passed",), ("end",),
        ):
            self.refused(statement)
            self.refused(STOP, ("repeat", 2, (STOP, statement)))

    def test_lengths_of_statements(self):
        for statement in (
            ("read", "hole", "tool"), ("let", "a", HOLE), ("tell", "a", HOLE, "mm"), ("judge", "a", HOLE, GOOD, BAD),
            ("choose", HOLE, GOOD, BAD, (), (), ()), ("repeat", 1, ()), ("call", "first", (), ()), STOP,
        ):
            self.assertEqual(len(charter(procedures=(work(name="first", features=(), roles=()), work(statement))).procedures), 2)
            self.refused(statement + (0,))
            self.refused(statement + ((),))
            self.refused(statement[:-1])
            self.refused(list(statement))
        self.taken(("repeat", 1, (("leave",),)))
        self.refused(("repeat", 1, (("leave", 1),)))

    def test_names_in_statements(self):
        for name in NO_NAMES:
            self.refused(("read", name, "tool"))
            self.refused(("read", "hole", name))
            self.refused(("let", name, HOLE))
            self.refused(("tell", name, HOLE, "mm"))
            self.refused(("judge", name, HOLE, GOOD, BAD))
            self.refused(("call", name, (), ()))
            self.refused(("call", "work", (name,), ()))
            self.refused(("call", "work", ("hole", name), ()))
            self.refused(("call", "work", (), (name,)))
        for names in (None, [], ["hole"], "hole", 1):
            self.refused(("call", "work", names, ()))
            self.refused(("call", "work", (), names))

    def test_texts_of_units(self):
        for text in NO_TEXTS:
            self.refused(("tell", "a", HOLE, text))
            self.refused(("let", "a", ("amount", (1, 1), text)))

    def test_expressions_in_each_place(self):
        for bad in (None, ("size",), (), [], "hole", ("size", "Hole"), ["size", "hole"]):
            self.refused(("let", "a", bad))
            self.refused(("tell", "a", bad, "mm"))
            for at in (2, 3, 4):
                statement = ["judge", "a", HOLE, GOOD, BAD]
                statement[at] = bad
                self.refused(tuple(statement))
            for at in (1, 2, 3):
                statement = ["choose", HOLE, GOOD, BAD, (), (), ()]
                statement[at] = bad
                self.refused(tuple(statement))

    def test_bodies_in_each_place(self):
        for body in NO_BODIES:
            for at in (4, 5, 6):
                statement = ["choose", HOLE, GOOD, BAD, (), (), ()]
                statement[at] = body
                self.refused(tuple(statement))
            self.refused(("repeat", 2, body))

    def test_turns(self):
        for turns in (1, 2, 3, 4):
            self.taken(("repeat", turns, ()))
        for turns in (0, 5, -1, 100, True, None, "2", 2.0, (2,)):
            self.refused(("repeat", turns, ()))

    def test_30_and_31_statements(self):
        self.taken(*[STOP] * 30)
        self.refused(*[STOP] * 31)
        choose = ("choose", HOLE, GOOD, BAD, (STOP,) * 7, (STOP,) * 8, (("repeat", 2, (STOP,) * 5),))
        self.taken(choose, *[STOP] * 8)
        self.refused(choose, *[STOP] * 9)
        self.taken(*[STOP] * 8, choose)
        self.refused(*[STOP] * 9, choose)
        self.refused(("repeat", 1, (STOP,) * 30))
        self.taken(("repeat", 1, (STOP,) * 29))

    def test_depth_4_and_5(self):
        inner = STOP
        for depth in range(1, 4):
            inner = ("repeat", 2, (inner,))
            self.taken(inner)
            self.taken(("choose", HOLE, GOOD, BAD, (), (), ()), inner)
        self.refused(("repeat", 2, (inner,)))
        self.taken(("repeat", 1, (("repeat", 1, (("repeat", 1, (("repeat", 1, ()),)),)),)))
        self.refused(("repeat", 1, (("repeat", 1, (("repeat", 1, (("repeat", 1, (("repeat", 1, ()),)),)),)),)))
        for at in (4, 5, 6):
            statement = ["choose", HOLE, GOOD, BAD, (), (), ()]
            statement[at] = (("repeat", 2, (("repeat", 2, (STOP,)),)),)
            self.taken(tuple(statement))
            statement[at] = (inner,)
            self.refused(tuple(statement))

    def test_leaves(self):
        for leaf in (grains(1), grains((-7, 3)), HOLE, ("offset", "tool", 5), ("amount", (0, 1), "mm")):
            self.taken(("let", "a", leaf))
            self.refused(("let", "a", list(leaf)))
            self.refused(("let", "a", leaf + (1,)))
            self.refused(("let", "a", leaf[:-1]))
            self.refused(("let", "a", ("plus", leaf[:-1], leaf)))
            self.refused(("let", "a", ("plus", leaf, list(leaf))))
        self.taken(("let", "a", HOLE), ("let", "b", ("name", "a")))
        for name in NO_NAMES:
            self.refused(("let", "a", ("size", name)))
            self.refused(("let", "a", ("offset", name, 0)))
            self.refused(("let", "a", ("name", name)))
        for number in NO_RATIOS:
            self.refused(("let", "a", ("amount", number, "mm")))

    def test_marks_of_offsets(self):
        for mark in (-1000, -999, 0, 999, 1000):
            self.taken(("let", "a", ("offset", "tool", mark)))
        for mark in (-1001, 1001, True, None, "5", 5.0, (5,), 10 ** 30):
            self.refused(("let", "a", ("offset", "tool", mark)))

    def test_operators(self):
        for word in ("plus", "minus", "times", "over"):
            self.taken(("let", "a", (word, HOLE, HOLE)))
            for thing in ((word,), (word, HOLE), (word, HOLE, HOLE, HOLE), [word, HOLE, HOLE], (word, HOLE, None), (word, None, HOLE), (word, "a", "b")):
                self.refused(("let", "a", thing))
        for word in ("add", "power", "", None, 1, "+", "Plus", ["plus"]):
            self.refused(("let", "a", (word, HOLE, HOLE)))

    def test_15_and_16_expressions(self):
        self.taken(("let", "a", tower(15)))
        self.refused(("let", "a", tower(17)))
        right = HOLE
        for _ in range(7):
            right = ("minus", HOLE, right)
        self.taken(("let", "a", right))
        self.refused(("let", "a", ("plus", HOLE, right)))
        both = ("plus", tower(7), tower(7))
        self.taken(("let", "a", both))
        self.refused(("let", "a", ("plus", tower(7), tower(9))))
        self.refused(("let", "a", ("plus", tower(9), tower(7))))
        self.taken(("judge", "a", tower(15), tower(15, GOOD), tower(15, BAD)))
        self.refused(("judge", "a", tower(15), tower(17, GOOD), BAD))
        self.refused(("judge", "a", tower(15), GOOD, tower(17, BAD)))
        self.refused(("choose", tower(17), GOOD, BAD, (), (), ()))
        self.refused(("tell", "a", tower(17), "mm"))
        # A name is one expression, whatever it stands for.
        self.taken(("let", "a", tower(15)), ("let", "b", tower(15, ("name", "a"))))

    def test_names_are_not_looked_up_here(self):
        """A bad form behind goes ahead of a name that is not there."""
        self.refused(("read", "nothing", "nowhere"), ("halt",))
        self.refused_entry(("work", (("hole", "length"), ("hole", "length")), (), (("halt",),)))


if __name__ == "__main__":
    unittest.main()
