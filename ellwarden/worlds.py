"""Spots and worlds: a world gives a ratio to each of its spots, 0 to the ground."""

from ellwarden.checks import is_integer, is_row, is_tuple_of
from ellwarden.errors import BadWorld, NoSpot
from ellwarden.ratios import compare, is_ratio, minus

GROUND = ("ground", 0, 0)


def is_spot(thing):
    """Whether it is a tuple of a string and two integers."""
    if not is_tuple_of(thing, 3):
        return False
    name, stretch, day = thing
    return isinstance(name, str) and is_integer(stretch) and is_integer(day)


class World:
    """A ratio for each of some spots, the ground first, with 0."""

    def __init__(self, pairs):
        self._values = _values_of(pairs)

    def __getitem__(self, at):
        # A spot with True for 1 would be found in the dict by likeness.
        if not is_spot(at) or at not in self._values:
            raise NoSpot(at)
        return self._values[at]

    def __contains__(self, x):
        return is_spot(x) and x in self._values

    def __len__(self):
        return len(self._values)

    def __iter__(self):
        return iter(self._values)

    def __eq__(self, other):
        return isinstance(other, World) and self._values == other._values

    def gap(self, a, b):
        """The value of b less that of a."""
        left = self[a]
        return minus(self[b], left)

    def keeps(self, link):
        """Whether what the link says is so."""
        a, b, bound, _ = link
        return compare(self.gap(a, b), (bound, 1)) <= 0


def _values_of(pairs):
    """The dict of the spots and their ratios, judged pair by pair."""
    if not is_row(pairs) or len(pairs) == 0:
        raise BadWorld(0)
    values = {}
    for place, pair in enumerate(pairs):
        if not is_tuple_of(pair, 2):
            raise BadWorld(place)
        spot, number = pair
        if not is_spot(spot) or spot in values or not is_ratio(number):
            raise BadWorld(place)
        if place == 0 and (spot != GROUND or number[0] != 0):
            raise BadWorld(place)
        values[spot] = number
    return values


def higher(first, second):
    """The world with the greater values of two worlds with the same spots."""
    return _chosen(first, second, 1)


def lower(first, second):
    """The world with the lesser values of two worlds with the same spots."""
    return _chosen(first, second, -1)


def _chosen(first, second, sign):
    """For each spot the value of first, unless the other one lies further to the side of sign."""
    _ask_for_all(first, second)
    _ask_for_all(second, first)
    pairs = []
    for spot in first:
        value = first[spot]
        if compare(second[spot], value) == sign:
            value = second[spot]
        pairs.append((spot, value))
    return World(pairs)


def _ask_for_all(asked, world):
    """NoSpot for the first spot of the one world that the other one lacks."""
    for spot in asked:
        if spot not in world:
            raise NoSpot(spot)
