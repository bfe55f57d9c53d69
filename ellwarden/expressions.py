"""Expressions of procedures that were judged, and how many readings procedures take."""

from ellwarden.counts import counts_of
from ellwarden.dims import base_dimension
from ellwarden.errors import Nobody, Unknown
from ellwarden.marks import CUTS
from ellwarden.plainforms import plain_rest
from ellwarden.reckoning import Reckoner
from ellwarden.shapes import bodies_of


def kind_of(charter, procedure, expression, names=()):
    """The pair of the kind and the dimension of an expression."""
    sizes = {}
    offsets = {}
    # The kind does not depend on what is handed on: the parameters stand for themselves.
    for name, base in procedure[1]:
        sizes[name] = (name, base_dimension(charter.bases, base))
    for name, base in procedure[2]:
        offsets[name] = (name, (), base_dimension(charter.bases, base))
    value = Reckoner(charter.system(), 0, sizes, offsets, names).value_of(expression)
    return (value[0], value[-1])


def quantity_of(charter, procedure, expression, day, features, devices, names=()):
    """The quantity of an expression on a day, with what is handed on for the parameters."""
    sizes = {}
    offsets = {}
    for (name, base), feature in zip(procedure[1], features):
        sizes[name] = (feature, base_dimension(charter.bases, base))
    for (name, base), device in zip(procedure[2], devices):
        cuts = () if device == "nobody" else charter[device][CUTS]
        offsets[name] = (device, cuts, base_dimension(charter.bases, base))
    value = Reckoner(charter.system(), day, sizes, offsets, names).value_of(expression)
    if value[0] == "nobody":
        raise Nobody(value[1])
    if value[0] == "constant":
        return ("sum", plain_rest(value[1]), value[2])
    return value


def steps_of(body):
    """All statements of a body, in the order of their steps."""
    for statement in body:
        yield statement
        for inner in bodies_of(statement):
            yield from steps_of(inner)


def readings(charter, name):
    """The pair of the greatest numbers of readings and of steps of a procedure."""
    counts = counts_of(charter.procedures)
    if not isinstance(name, str) or name not in counts:
        raise Unknown(name)
    return counts[name]
