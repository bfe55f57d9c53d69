"""Going through the procedure of a slip, step by step, with the marks that its readings take."""

from ellwarden.errors import BadMark, Nobody, NoQuotient
from ellwarden.expressions import quantity_of, steps_of
from ellwarden.marks import has_mark, reading_links
from ellwarden.quantities import ends, judged
from ellwarden.ratios import over

# How a statement or a body ends: the walk goes on behind it, leaves a repeat, or ends.
ON = 0
LEAVE = 1
END = 2
BODIES = ("passed", "failed", "open")


class Marks:
    """A row of marks, which are used one after the other."""

    def __init__(self, row):
        self._row = tuple(row)
        self._used = 0

    def next_mark(self, _, device):
        """The next mark of a device, whatever the feature and the role; None behind the last."""
        if self._used == len(self._row):
            return None
        mark = self._row[self._used]
        if not has_mark(device, mark):
            raise BadMark(self._used)
        self._used += 1
        return mark


class Records:
    """The readings of one day that a book has: pairs of (feature, role) and a mark, in order."""

    def __init__(self, rows):
        self._rows = list(rows)

    def next_mark(self, pair, device):
        """The mark of the first of them that was not used, for this pair, that the device has."""
        rows = list(enumerate(self._rows))
        fitting = [place for place, (told, mark) in rows if told == pair and has_mark(device, mark)]
        if len(fitting) == 0:
            return None
        _, mark = self._rows.pop(fitting[0])
        return mark


class Scene:
    """A procedure with what its parameters stand for, and the names that were let."""

    def __init__(self, procedure, features, devices, roles):
        self.procedure = procedure
        self.features = features
        self.devices = devices
        self.roles = roles
        self.names = []
        self._features = {}
        self._places = {}
        for (name, _), feature in zip(procedure[1], features):
            self._features[name] = feature
        for place, (name, _) in enumerate(procedure[2]):
            self._places[name] = place

    def feature_of(self, name):
        """The feature that a parameter stands for."""
        return self._features[name]

    def device_of(self, name):
        """The device that a parameter stands for, or "nobody"."""
        return self.devices[self._places[name]]

    def role_of(self, name):
        """The role in which it stands, or "" if that is not told."""
        return self.roles[self._places[name]]


class Walk:
    """A walk through the procedure of a slip whose web has worlds; marks are asked of source.
    What was found stands in the attributes behind walk."""

    def __init__(self, slip, source):
        self._charter = slip.charter
        self._units = slip.charter.system()
        self._day = slip.day
        self._source = source
        self._known = {}
        self.web = slip.web
        self.kind = "done"
        self.reads = []
        self.told = []
        self.begun = []
        self.asked = None
        self.world = None
        self._call(slip.procedure, slip.features, slip.devices, slip.roles)

    def _end(self, kind):
        self.kind = kind
        return END

    def _call(self, name, features, devices, roles):
        procedure = self._charter[name]
        return self._go_through(procedure[3], 0, Scene(procedure, features, devices, roles))

    def _go_through(self, body, step, scene):
        """Does a body whose first statement has this step."""
        many = len(scene.names)
        how = ON
        for statement in body:
            self.begun.append((scene.procedure[0], step))
            how = self._do(statement, step, scene)
            if how != ON:
                break
            step = step + _steps_in((statement,))
        # What was let in a body ends with it.
        scene.names = scene.names[:many]
        return how

    def _do(self, statement, step, scene):
        word = statement[0]
        if word == "read":
            return self._read(scene, statement[1], statement[2])
        if word == "let":
            scene.names.append(statement[1:])
            return ON
        if word == "tell":
            return self._tell(scene, statement)
        if word == "judge":
            return self._judge(scene, statement)
        if word == "choose":
            return self._choose(scene, statement, step)
        if word == "repeat":
            return self._repeat(scene, statement, step)
        if word == "call":
            return self._call_other(scene, statement)
        return LEAVE if word == "leave" else END

    def _read(self, scene, feature_name, role_name):
        feature = scene.feature_of(feature_name)
        role = scene.role_of(role_name)
        name = scene.device_of(role_name)
        if name == "nobody":
            return self._end("nobody")
        device = self._charter[name]
        mark = self._source.next_mark((feature, role), device)
        if mark is None:
            self.asked = (feature, name)
            return self._end("asks")
        why = ("mark", len(self.reads))
        self.reads.append((feature, role, mark))
        self.web = self.web.more(reading_links(device, feature, self._day, mark, why))
        # What was known of quantities was known in the web before.
        self._known = {}
        return ON if self.web.bad_ring() is None else self._end("clash")

    def _tell(self, scene, statement):
        _, label, expression, unit = statement
        how, quantity, pair = self._look_at(scene, expression)
        if how == ON:
            factor = self._units.factor_of(unit)
            low, high = [end.value for end in pair]
            row = ("told", label, over(low, factor), over(high, factor), unit)
            self.told.append((row, quantity, (low, high), pair))
        return how

    def _judge(self, scene, statement):
        how, quantity, pair = self._look_at(scene, statement[2])
        if how == ON:
            limits = self._limits(scene, statement[3:])
            found = judged(pair, limits[0], limits[1])
            self.told.append((("judged", statement[1], found.word), quantity, limits, found))
        return how

    def _choose(self, scene, statement, step):
        how, _, pair = self._look_at(scene, statement[1])
        if how != ON:
            return how
        limits = self._limits(scene, statement[2:4])
        place = BODIES.index(judged(pair, limits[0], limits[1]).word)
        bodies = statement[4:]
        ahead = sum([_steps_in(body) for body in bodies[:place]])
        return self._go_through(bodies[place], step + 1 + ahead, scene)

    def _repeat(self, scene, statement, step):
        for _ in range(statement[1]):
            how = self._go_through(statement[2], step + 1, scene)
            if how != ON:
                return END if how == END else ON
        return ON

    def _call_other(self, scene, statement):
        _, name, features, roles = statement
        handed = [scene.feature_of(feature) for feature in features]
        devices = [scene.device_of(role) for role in roles]
        return self._call(name, handed, devices, [scene.role_of(role) for role in roles])

    def _quantity(self, scene, expression):
        """The quantity of an expression here; Nobody."""
        names = scene.names
        return quantity_of(self._charter, scene.procedure, expression, self._day, scene.features, scene.devices, names)

    def _limits(self, scene, expressions):
        """The limits G and N, constants in grains."""
        return tuple([self._quantity(scene, expression)[1][1] for expression in expressions])

    def _look_at(self, scene, expression):
        """How the walk goes on behind an expression, with its quantity and the pair of its
        ends if it has them."""
        try:
            quantity = self._quantity(scene, expression)
            if quantity not in self._known:
                self._known[quantity] = ends(self.web, quantity)
        except Nobody:
            return (self._end("nobody"), None, None)
        except NoQuotient as nought:
            self.world = nought.world
            return (self._end("nought"), None, None)
        return (ON, quantity, self._known[quantity])


def _steps_in(body):
    """The number of the steps of a body, as they are written."""
    return len(list(steps_of(body)))
