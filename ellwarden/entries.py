"""The form of the entries of a charter, part by part; what their names mean is no matter here."""

from ellwarden.checks import is_integer, is_tuple_of, is_within
from ellwarden.names import is_name
from ellwarden.shapes import is_procedure
from ellwarden.units import is_unit

SIZE = 10 ** 9
MARK = 1000
MARKS = 60
CUTS = 2


def has_form(part, entry, bases):
    """Whether an entry has the form told for its part, with the bases passed."""
    if part == "units":
        return is_unit(entry, len(bases))
    if part == "devices":
        return is_device(entry, bases)
    if part == "features":
        return is_feature(entry, bases)
    if part == "roles":
        return is_tuple_of(entry, 2) and is_name(entry[0]) and entry[1] in bases
    if part == "procedures":
        return is_procedure(entry, bases)
    return is_name(entry)


def is_device(thing, bases):
    """Whether it is the tuple of a device."""
    if not is_tuple_of(thing, 12):
        return False
    name, base, low, high, step, slack, least, greatest, fall, rise, steep, cuts = thing
    if not is_name(name) or base not in bases or not _are_ends(low, high):
        return False
    if not is_within(step, 1, SIZE) or not is_within(slack, -SIZE, SIZE):
        return False
    if not _is_range(least, greatest) or not _are_speeds((fall, rise, steep)):
        return False
    return 2 * slack >= step + steep and _are_cuts(cuts, low, high)


def is_feature(thing, bases):
    """Whether it is the tuple of a feature."""
    if not is_tuple_of(thing, 6):
        return False
    name, base, least, greatest, fall, rise = thing
    if not is_name(name) or base not in bases:
        return False
    return _is_range(least, greatest) and _are_speeds((fall, rise))


def _are_ends(low, high):
    """Whether they are the low and the high mark of a device."""
    if not is_within(low, -MARK, MARK) or not is_within(high, -MARK, MARK):
        return False
    return low < high < low + MARKS


def _is_range(least, greatest):
    return is_within(least, -SIZE, SIZE) and is_within(greatest, -SIZE, SIZE) and least <= greatest


def _are_speeds(things):
    return all([is_within(thing, 0, SIZE) for thing in things])


def _are_cuts(thing, low, high):
    """Whether it is an ascending tuple of at most 2 marks above low and at most high."""
    if not isinstance(thing, tuple) or len(thing) > CUTS:
        return False
    lowest = low + 1
    for cut in thing:
        if not is_integer(cut) or not lowest <= cut <= high:
            return False
        lowest = cut + 1
    return True
