"""Charters, parts of charters, and what is looked for in errors, as several tests share it."""

import unittest

from ellwarden.charters import Charter

CALIPER = ("caliper", "length", 0, 9, 200, 130, -300, 300, 5, 5, 40, (5,))
BORE = ("bore", "length", 500, 1900, 0, 0)
MM = ("mm", (1,), (1000, 1))


def sized(name):
    return ("size", name)


def grains(number, unit="length"):
    """An amount of an integer or a ratio."""
    return ("amount", number if isinstance(number, tuple) else (number, 1), unit)


FITONE = (
    "fitone",
    (("hole", "length"),),
    (("tool", "length"),),
    (
        ("read", "hole", "tool"),
        ("choose", sized("hole"), grains(1, "mm"), grains((6, 5), "mm"), (), (), (("read", "hole", "tool"),)),
        ("judge", "small", sized("hole"), grains(1, "mm"), grains((6, 5), "mm")),
        ("tell", "hole", sized("hole"), "mm"),
    ),
)

PARTS = {
    "days": 5,
    "bases": ("length",),
    "units": (MM,),
    "devices": (CALIPER,),
    "features": (BORE,),
    "roles": (("gauge", "length"),),
    "jobs": ("fit",),
    "procedures": (FITONE,),
}

# The example of the document.
LINES = """days 5
base length
unit mm length 1000
device caliper length 0 9 200 130 -300 300 5 5 40 5
feature bore length 500 1900 0 0
role gauge length
job fit
procedure fitone
takes hole length
uses tool length
read hole by tool
choose size hole good 1 mm bad 6/5 mm
open
read hole by tool
end
judge small size hole good 1 mm bad 6/5 mm
tell hole size hole in mm
end""".splitlines()


def charter(**parts):
    """The charter of the example, with parts exchanged."""
    return Charter(**{**PARTS, **parts})


def device(name="dial", base="length", low=0, high=9, step=10, slack=10, least=-50, greatest=50, fall=0, rise=0, steep=0, cuts=()):
    return (name, base, low, high, step, slack, least, greatest, fall, rise, steep, cuts)


def feature(name="slot", base="length", least=0, greatest=100, fall=0, rise=0):
    return (name, base, least, greatest, fall, rise)


# A house with two bases, for expressions.
HOUSE = {
    "days": 3,
    "bases": ("length", "time"),
    "units": (("mm", (1, 0), (10, 1)), ("s", (0, 1), (3, 2)), ("ratio", (0, 0), (1, 100)), ("peak", (9, 0), (1, 1))),
    "devices": (
        device("dial", cuts=(4, 7)),
        device("ring"),
        device("clock", "time", least=-5, greatest=5, cuts=(3,)),
    ),
    "features": (feature("bore"), feature("slot"), feature("beat", "time")),
    "roles": (("gauge", "length"), ("timer", "time")),
}


def house(*procedures, **parts):
    """A charter of two bases with these procedures."""
    return Charter(**{**HOUSE, "procedures": procedures, **parts})


def procedure(*body, name="main", features=(("one", "length"), ("two", "length"), ("beat", "time")), roles=None):
    """A procedure with parameters of both bases."""
    if roles is None:
        roles = (("tool", "length"), ("timer", "time"))
    return (name, features, roles, body)


class Case(unittest.TestCase):
    def raises(self, error, call, **kept):
        """The error that a call raises, with what it keeps."""
        with self.assertRaises(error) as caught:
            call()
        for name, value in kept.items():
            self.assertEqual(getattr(caught.exception, name), value)
        return caught.exception


# A house with jobs and procedures, for books.
FIRST = ("first", (("one", "length"),), (("tool", "length"),), (("read", "one", "tool"),))
SECOND = ("second", (), (), ())


def keeper(**parts):
    """A charter whose books can have news of every kind."""
    return house(FIRST, SECOND, **{"jobs": ("fit", "weigh"), **parts})


# Values of kinds that are never let where a name or an integer is due.
STRANGE = (None, True, False, 1.0, "", (), [], {}, b"bore", ("bore",), ["bore"], (1,), [1])


def swapped(row, place, value):
    """The tuple with another value at a place."""
    return row[:place] + (value,) + row[place + 1:]


def ratios(*numbers):
    return tuple((number, 1) for number in numbers)


def spot_form(*terms, rest=(0, 1)):
    """A plain form of spots, each once or with a factor: ("bore", 0, 1) or (("bore", 0, 1), (2, 1))."""
    pairs = [term if isinstance(term[0], tuple) else (term, (1, 1)) for term in terms]
    return (tuple(sorted(pairs)), rest)
