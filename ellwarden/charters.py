"""Charters: the days, bases, units, things, roles, jobs and procedures of a house."""

from ellwarden.checks import is_row, is_within
from ellwarden.entries import has_form
from ellwarden.errors import BadCharter, TooMany, Twice, Unknown
from ellwarden.faults import judge_procedures
from ellwarden.marks import stretches
from ellwarden.things import thing_links, thing_spots
from ellwarden.units import Units
from ellwarden.worlds import GROUND

# The parts in the order in which they are judged, with the sort and the most of their entries.
PARTS = (
    ("bases", "base", 4),
    ("units", "unit", 12),
    ("devices", "device", 6),
    ("features", "feature", 6),
    ("roles", "role", 6),
    ("jobs", "job", 6),
    ("procedures", "procedure", 8),
)


class Charter:
    """The charter of a house; it never changes."""

    DAYS = 20
    SPOTS = 240

    def __init__(self, *, days, bases, units=(), devices=(), features=(), roles=(), jobs=(), procedures=()):
        if not is_within(days, 1, Charter.DAYS):
            raise BadCharter("days", -1)
        rows = {"bases": bases, "units": units, "devices": devices, "features": features}
        rows["roles"] = roles
        rows["jobs"] = jobs
        rows["procedures"] = procedures
        _judge_forms(rows)
        self.days = days
        self.bases = tuple(bases)
        self.units = tuple(units)
        self.devices = tuple(devices)
        self.features = tuple(features)
        self.roles = tuple(roles)
        self.jobs = tuple(jobs)
        self.procedures = tuple(procedures)
        _judge_numbers(rows)
        self._spots = tuple(_spots_of(days, self.devices, self.features))
        if len(self._spots) > Charter.SPOTS:
            raise TooMany("spot")
        self._sorts = _sorts_of(rows)
        judge_procedures(self.system(), self.procedures)
        self._things = tuple([entry[0] for entry in self.devices + self.features])
        self._entries = {}
        for entry in self.devices + self.features + self.roles + self.procedures:
            self._entries[entry[0]] = entry

    def __getitem__(self, at):
        if not isinstance(at, str) or at not in self._entries:
            raise Unknown(at)
        return self._entries[at]

    def __contains__(self, x):
        return isinstance(x, str) and x in self._entries

    def __len__(self):
        return len(self._things)

    def __iter__(self):
        return iter(self._things)

    def __eq__(self, other):
        if not isinstance(other, Charter):
            return False
        if self.days != other.days or self.bases != other.bases or self.units != other.units:
            return False
        if self.devices != other.devices or self.features != other.features or self.roles != other.roles:
            return False
        return self.jobs == other.jobs and self.procedures == other.procedures

    def sort_of(self, name):
        """What a name of the charter is a name of, or None."""
        return self._sorts.get(name, None) if isinstance(name, str) else None

    def base_of(self, name):
        """The base of a thing or role."""
        if self.sort_of(name) not in ("device", "feature", "role"):
            raise Unknown(name)
        return self._entries[name][1]

    def system(self):
        """The units of the house."""
        return Units(self.bases, self.units)

    def all_spots(self):
        """The spots of the charter, in order."""
        return self._spots

    def own_links(self):
        """The links of the charter, in order."""
        links = []
        for device in self.devices:
            links.extend(thing_links(device[0], stretches(device), self.days, device[6:11]))
        for feature in self.features:
            # A feature has one stretch, so that no steep is looked at.
            links.extend(thing_links(feature[0], 1, self.days, feature[2:6] + (0,)))
        return tuple(links)

    def changed(self, **parts):
        """The charter with these parts exchanged."""
        told = {"days": self.days, "bases": self.bases, "units": self.units, "devices": self.devices}
        told["features"] = self.features
        told["roles"] = self.roles
        told["jobs"] = self.jobs
        told["procedures"] = self.procedures
        told.update(parts)
        return Charter(**told)


def _judge_forms(rows):
    """BadCharter for the first part, and the first place in it, that has not the form told."""
    for part, _, _ in PARTS:
        if not is_row(rows[part]):
            raise BadCharter(part, -1)
        for place, entry in enumerate(rows[part]):
            if not has_form(part, entry, rows["bases"]):
                raise BadCharter(part, place)


def _judge_numbers(rows):
    """TooMany for the first part with more entries than told, or without a base."""
    for part, _, most in PARTS:
        if len(rows[part]) > most or (part == "bases" and len(rows[part]) < 1):
            raise TooMany(part)


def _sorts_of(rows):
    """The dict of the sorts of all names of entries; Twice for the first that came before."""
    sorts = {}
    for part, sort, _ in PARTS:
        for entry in rows[part]:
            name = entry if part in ("bases", "jobs") else entry[0]
            if name in sorts:
                raise Twice(name)
            sorts[name] = sort
    return sorts


def _spots_of(days, devices, features):
    spots = [GROUND]
    for device in devices:
        spots.extend(thing_spots(device[0], stretches(device), days))
    for feature in features:
        spots.extend(thing_spots(feature[0], 1, days))
    return spots
