"""Runs: what a procedure tells of the marks that it was given."""

from ellwarden.checks import is_within
from ellwarden.errors import NoRow


class Run:
    """A run of a slip, as a walk through its procedure has found it."""

    def __init__(self, slip, walk):
        self.slip = slip
        self.kind = walk.kind
        self.rows = tuple([row for row, _, _, _ in walk.told])
        self.reads = tuple(walk.reads)
        self.used = len(walk.reads)
        self.asked = walk.asked
        self.web = walk.web
        self.ring = walk.web.bad_ring()
        self.world = walk.world
        self._told = tuple(walk.told)

    def evidence(self, number):
        """For a row the pair of its Ends, or its Verdict."""
        _, _, _, found = self._at(number)
        return found

    def quantity(self, number):
        """The quantity of which a row tells."""
        _, quantity, _, _ = self._at(number)
        return quantity

    def claims(self):
        """The claims that the rows make, in order; an open verdict makes none."""
        found = []
        for row, quantity, limits, _ in self._told:
            word = "within" if row[0] == "told" else row[2]
            if word != "open":
                found.append((word, quantity, *limits))
        return tuple(found)

    def questions(self):
        """The questions that open verdicts leave, in order."""
        return tuple([(quantity, *limits) for row, quantity, limits, _ in self._told if row[2] == "open"])

    def _at(self, number):
        if not is_within(number, 0, len(self._told) - 1):
            raise NoRow(number)
        return self._told[number]
