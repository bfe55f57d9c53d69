"""Plans of readings that answer a question, and answers to all plans where there are none."""

from ellwarden.cards import card_of
from ellwarden.charts import CLASH, joined_spans
from ellwarden.errors import Clash, TooMany
from ellwarden.marks import HIGH, LOW, reading_links, stretches
from ellwarden.quantities import verdict

MOST = 1000


def plan(charter, web, day, question, menu, *, most):
    """The least plan with at most so many readings, or None."""
    board = Board(charter, web, day, question, menu)
    board.ask_for_few(most)
    _, found = board.least_plan(board.card, most)
    return found


def answer(charter, web, day, question, menu, *, most):
    """An answer to all plans with at most so many readings, or None."""
    board = Board(charter, web, day, question, menu)
    board.ask_for_few(most)
    found = board.reply(board.card, most, ())
    return None if found is None else board.with_worlds(found)


class Board:
    """A question, and a menu of readings on a day; NoSpot, then Clash. What is known behind some
    readings is told by cards of the spots that matter."""

    def __init__(self, charter, web, day, question, menu):
        self._web = web
        self._day = day
        self._menu = [(feature, charter[name]) for feature, name in menu]
        form, self._G, self._N = question
        # The dimension of what is asked for is no matter here.
        self._aim = ("sum", form, (0,))
        self._own_spots = [spot for spot, _ in form[0]]
        spots = list(self._own_spots)
        for feature, device in self._menu:
            spots.append((feature, 0, day))
            spots.extend([(device[0], stretch, day) for stretch in range(stretches(device))])
        self.card = card_of(web, spots)

    def ask_for_few(self, most):
        """TooMany if there are too many rows of so many marks."""
        marks = sum([len(_marks_of(device)) for _, device in self._menu])
        rows = 1
        for _ in range(most):
            rows = rows * marks
        if rows > MOST:
            raise TooMany("mark")

    def least_plan(self, card, most):
        """The pair of the depth behind which the question is answered, and of the least plan; of
        None and None if the depth is above most."""
        word = self._verdict(card.cut(self._own_spots).as_web()).word
        if word != "open":
            return (0, (word,))
        best = None
        found = None
        for number in range(len(self._menu)):
            # Only a plan with less depth takes the place of one that was found.
            room = most if best is None else best - 1
            depth, told = self._plan_by(card, number, room)
            if depth is not None:
                best = depth
                found = told
        return (best, found)

    def _plan_by(self, card, number, most):
        """As least_plan, for the plans that begin with this reading of the menu."""
        if most < 1:
            return (None, None)
        deepest = 0
        spans = []
        for mark in _marks_of(self._menu[number][1]):
            further = self._behind(card, self._links(number, mark))
            if further is None:
                spans.append((mark, mark, CLASH))
                continue
            depth, told = self.least_plan(further, most - 1)
            if depth is None:
                return (None, None)
            deepest = max(deepest, depth)
            spans.append((mark, mark, told))
        return (deepest + 1, ("read", number, joined_spans(spans)))

    def reply(self, card, most, links):
        """An answer to all plans behind readings with these links, or None. Where it is open it
        has the links of all readings in the place of the worlds."""
        if self._verdict(card.cut(self._own_spots).as_web()):
            return None
        if most == 0:
            return ("open", links)
        answers = [self._reply_to(card, number, most, links) for number in range(len(self._menu))]
        return None if None in answers else ("shown", tuple(answers))

    def _reply_to(self, card, number, most, links):
        """The pair of the first mark of a reading behind which there is an answer, and of that."""
        for mark in _marks_of(self._menu[number][1]):
            new = self._links(number, mark)
            further = self._behind(card, new)
            if further is not None:
                told = self.reply(further, most - 1, links + new)
                if told is not None:
                    return (mark, told)
        return None

    def with_worlds(self, told):
        """The answer, with worlds where it has links."""
        word, parts = told
        if word == "open":
            found = self._verdict(self._web.more(parts))
            return (word, found.good, found.bad)
        return (word, tuple([(mark, self.with_worlds(further)) for mark, further in parts]))

    def _verdict(self, web):
        return verdict(web, self._aim, self._G, self._N)

    def _links(self, number, mark):
        """The links of a reading of the menu."""
        feature, device = self._menu[number]
        return reading_links(device, feature, self._day, mark, ("mark", mark))

    def _behind(self, card, links):
        """The card with these links, or None if no world is left."""
        try:
            for a, b, bound, _ in links:
                card = card.entered(a, b, bound)
        except Clash:
            return None
        return card


def _marks_of(device):
    """The marks of a device, in order."""
    return list(range(device[LOW], device[HIGH] + 1))
