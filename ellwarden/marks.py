"""Marks, stretches and readings of devices, which are tuples as in a charter."""

from ellwarden.checks import is_within
from ellwarden.errors import BadMark

LOW = 2
HIGH = 3
STEP = 4
SLACK = 5
CUTS = 11


def stretches(device):
    """The number of stretches of the device's marks."""
    return len(device[CUTS]) + 1


def stretch_of(device, mark):
    """The stretch to which a mark, or any integer, belongs."""
    return stretch_at(device[CUTS], mark)


def stretch_at(cuts, mark):
    """The stretch of a mark between these cuts."""
    return len([cut for cut in cuts if cut <= mark])


def has_mark(device, mark):
    """Whether it is one of the marks that the device shows."""
    return is_within(mark, device[LOW], device[HIGH])


def reading_links(device, feature, day, mark, why):
    """The links of a reading of the feature on the day; the low and the high mark bound the
    size on one side only."""
    if not has_mark(device, mark):
        raise BadMark(mark)
    offset = (device[0], stretch_of(device, mark), day)
    size = (feature, 0, day)
    worth = device[STEP] * mark
    links = []
    if mark != device[HIGH]:
        links.append((offset, size, worth + device[SLACK], why))
    if mark != device[LOW]:
        links.append((size, offset, device[SLACK] - worth, why))
    return tuple(links)


def marks_in(world, device, feature, day):
    """The marks that the device can show of the feature in this world, ascending."""
    found = []
    for mark in range(device[LOW], device[HIGH] + 1):
        links = reading_links(device, feature, day, mark, ("mark",))
        if all([world.keeps(link) for link in links]):
            found.append(mark)
    return tuple(found)
