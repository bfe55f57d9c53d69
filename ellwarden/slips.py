"""Slips: a procedure with what it is done with on a day; runs by marks, and by what a book has."""

from ellwarden.bookwebs import web_of
from ellwarden.checks import is_row, is_within
from ellwarden.errors import BadDay, BadSlip, Nobody, Unknown
from ellwarden.marks import stretches
from ellwarden.rosters import does, stands
from ellwarden.runs import Run
from ellwarden.walks import Marks, Records, Walk
from ellwarden.worlds import GROUND


class Slip:
    """A procedure of a charter, a day, what is handed on, and the web that is known."""

    def __init__(self, charter, procedure, day, features, devices, web, roles=None):
        if charter.sort_of(procedure) != "procedure":
            raise Unknown(procedure)
        if not is_within(day, 0, charter.days - 1):
            raise BadDay(day)
        _, sizes, offsets, _ = charter[procedure]
        _ask_for_names(charter, "features", features, sizes, "feature", None)
        _ask_for_names(charter, "devices", devices, offsets, "device", "nobody")
        if roles is not None:
            _ask_for_names(charter, "roles", roles, offsets, "role", "")
        self.charter = charter
        self.procedure = procedure
        self.day = day
        self.features = tuple(features)
        self.devices = tuple(devices)
        self.web = web
        self.roles = tuple(roles) if roles is not None else ("",) * len(offsets)
        if not all([spot in web for spot in self.own_spots()]):
            raise BadSlip("web")

    def __call__(self, marks):
        """The run with these marks."""
        return Run(self, _walked(self, Marks(marks)))

    def own_spots(self):
        """The ground, and the spots of all features and devices on the day, each once."""
        spots = [GROUND]
        for feature in self.features:
            spots.append((feature, 0, self.day))
        for name in self.devices:
            if name != "nobody":
                many = stretches(self.charter[name])
                spots.extend([(name, stretch, self.day) for stretch in range(many)])
        found = {}
        for spot in spots:
            found[spot] = True
        return tuple(found)

    def trace(self, marks):
        """The pairs (procedure, step) of all statements that the run with these marks begins."""
        for pair in _walked(self, Marks(marks)).begun:
            yield pair


def _walked(slip, source):
    """The walk through the procedure of a slip; Clash if its web has no world."""
    slip.web.ask_for_world()
    return Walk(slip, source)


def _ask_for_names(charter, part, names, parameters, sort, instead):
    """BadSlip for a part that is no row of names of this sort, or of instead, one for each
    parameter, of its base."""
    if not is_row(names) or len(names) != len(parameters):
        raise BadSlip(part)
    for name, (_, base) in zip(names, parameters):
        if instead is None or name != instead:
            if charter.sort_of(name) != sort or charter.base_of(name) != base:
                raise BadSlip(part)


def slip_of(book, job, day, features, roles, moment=None):
    """The slip of a book for a job, with the devices that stand in the roles."""
    procedure = does(book, job, day, moment)
    if procedure == "nobody":
        raise Nobody(job)
    charter = book.charter
    _, sizes, offsets, _ = charter[procedure]
    _ask_for_names(charter, "features", features, sizes, "feature", None)
    _ask_for_names(charter, "roles", roles, offsets, "role", None)
    devices = [stands(book, role, day, moment) for role in roles]
    return Slip(charter, procedure, day, features, devices, web_of(book, moment), roles)


def enter_run(book, day, run):
    """Enters the readings and claims of a run in a book, all or nothing; their numbers."""
    rows = [("read", feature, role, run.slip.day, mark) for feature, role, mark in run.reads]
    rows.extend([("told", claim) for claim in run.claims()])
    book.ask_for_day(day)
    book.ask_for_room(len(rows))
    trial = book.copy()
    for news in rows:
        trial.enter(day, news)
    # Nothing is refused any more.
    return tuple([book.enter(day, news) for news in rows])


def retold(book, job, day, features, roles, moment=None):
    """The run of the slip of a book whose marks are those that the book has."""
    slip = slip_of(book, job, day, features, roles, moment)
    rows = []
    for number in book.in_force(moment):
        _, news = book[number]
        if news[0] == "read" and news[3] == day:
            rows.append((news[1:3], news[4]))
    return Run(slip, _walked(slip, Records(rows)))
