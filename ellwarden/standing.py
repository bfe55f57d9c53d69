"""Whether tellings stand: claims that worlds deny, states, first blames, fallen tellings."""

from ellwarden.bookwebs import web_of
from ellwarden.checks import is_integer, is_within
from ellwarden.claims import denies
from ellwarden.errors import NoQuotient, NoTelling
from ellwarden.quantities import ends


def denying(web, claim):
    """A world of a web that denies a claim, or None."""
    try:
        pair = ends(web, claim[1])
    except NoQuotient as nought:
        return nought.world
    # What a claim denies lies beyond a limit, so one of the ends is the first to be denied.
    for end in pair:
        if denies(end.reached, claim):
            return end.reached
    return None


def state(book, number, moment=None):
    """The state of a telling at a moment behind it."""
    numbers = book.in_force(moment)
    _ask_for_telling(book, number, len(book) if moment is None else moment)
    if number not in numbers:
        return "struck"
    return _state_in(web_of(book, moment), book[number][1][1])


def _state_in(web, claim):
    """The state of a telling in force in the web of a moment."""
    if web.bad_ring() is not None:
        return "clash"
    return "stands" if denying(web, claim) is None else "denied"


def history(book, number):
    """The states of a telling at all moments behind it."""
    _ask_for_telling(book, number, len(book))
    return tuple([state(book, number, moment) for moment in range(number + 1, len(book) + 1)])


def blame(book, number):
    """The number of the news by which a telling was denied first, or None."""
    for place, told in enumerate(history(book, number)):
        if told == "denied":
            return number + place
    return None


def _ask_for_telling(book, number, moment):
    """NoTelling unless it is the number of a telling ahead of a moment."""
    if not is_within(number, 0, moment - 1) or book[number][1][0] != "told":
        raise NoTelling(number)


class Fallen:
    """The tellings in force at a moment that a world of the moment denies."""

    def __init__(self, book, moment=None):
        web = web_of(book, moment)
        self.book = book.copy()
        self.moment = len(book) if moment is None else moment
        self._worlds = fallen_in(web, book, moment)

    def __iter__(self):
        return iter(self._worlds.items())

    def __contains__(self, x):
        return is_integer(x) and x in self._worlds

    def __len__(self):
        return len(self._worlds)

    def __bool__(self):
        return bool(len(self._worlds) > 0)


def fallen_in(web, book, moment=None):
    """The dict of the tellings in force in a book at a moment that a world of a web denies, each
    with such a world; Clash."""
    web.ask_for_world()
    worlds = {}
    for number in book.in_force(moment):
        _, news = book[number]
        if news[0] == "told":
            world = denying(web, news[1])
            if world is not None:
                worlds[number] = world
    return worlds
