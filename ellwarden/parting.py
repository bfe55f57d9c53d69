"""Where two cards part, and the procedure that parts them."""

from ellwarden.errors import BadCard
from ellwarden.marks import CUTS, LOW
from ellwarden.worlds import GROUND, World


def parted(card, other):
    """The first pair of spots whose bounds differ, and a world of the card with the greater one
    in which this bound is reached; None for equal cards."""
    if card.spots != other.spots:
        raise BadCard(-1)
    for a, row, beside in zip(card.spots, card.rows, other.rows):
        for b, bound, another in zip(card.spots, row, beside):
            if bound != another:
                return (a, b, _reaching(card.spots, row if bound > another else beside))
    return None


def _reaching(spots, row):
    """The world in which each spot lies as far above that of a row of bounds as it can."""
    return World([(spot, (bound - row[0], 1)) for spot, bound in zip(spots, row)])


def parter(charter, card, other):
    """The charter with the procedure that parts two cards as its only one, and the features and
    devices that are handed on; None for equal cards."""
    found = parted(card, other)
    if found is None:
        return None
    a, b, _ = found
    base = charter.base_of(b[0] if a == GROUND else a[0])
    handed = [("one", a[0]), ("two", b[0])]
    features = [pair for pair in handed if charter.sort_of(pair[1]) == "feature"]
    devices = [pair for pair in handed if charter.sort_of(pair[1]) == "device"]
    gap = ("minus", _value_at(charter, b, "two", base), _value_at(charter, a, "one", base))
    body = (("tell", "gap", gap, base),)
    procedure = (_free_name(charter), _parameters(features, base), _parameters(devices, base), body)
    names = [tuple([name for _, name in pairs]) for pairs in (features, devices)]
    return (charter.changed(procedures=(procedure,)), names[0], names[1])


def _parameters(pairs, base):
    return tuple([(parameter, base) for parameter, _ in pairs])


def _value_at(charter, spot, parameter, base):
    """The expression that is the value of a spot, by the parameter that stands for its thing."""
    name, stretch, _ = spot
    if spot == GROUND:
        return ("amount", (0, 1), base)
    if charter.sort_of(name) == "feature":
        return ("size", parameter)
    device = charter[name]
    starts = (device[LOW], *device[CUTS])
    return ("offset", parameter, starts[stretch])


def _free_name(charter):
    """A name that is none of the charter."""
    name = "parter"
    while charter.sort_of(name) is not None:
        name = name + "x"
    return name
