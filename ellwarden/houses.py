"""The houses and ties of a league: how they are judged, and what each two houses share."""

from ellwarden.books import Book
from ellwarden.bookwebs import web_of
from ellwarden.cards import card_of
from ellwarden.checks import is_row, is_tuple_of
from ellwarden.errors import Apart, BadHouse, BadTie, Unlike
from ellwarden.names import is_name
from ellwarden.worlds import GROUND

HOUSES = 5
THINGS = ("device", "feature")


def judge_houses(houses):
    """The dict of the books by the names of their houses."""
    pairs = list(houses) if is_row(houses) else []
    books = {}
    for place, pair in enumerate(pairs):
        if not is_tuple_of(pair, 2) or not is_name(pair[0]) or pair[0] in books or not isinstance(pair[1], Book):
            raise BadHouse(place)
        first = pairs[0][1].charter
        if pair[1].charter.days != first.days or pair[1].charter.bases != first.bases:
            raise BadHouse(place)
        books[pair[0]] = pair[1]
    if not 1 <= len(pairs) <= HOUSES:
        raise BadHouse(-1)
    return books


def judge_ties(ties, names):
    """The tuple of the ties between these houses."""
    rows = tuple(ties) if is_row(ties) else (None,)
    # Houses that are joined have the same group.
    groups = {}
    for name in names:
        groups[name] = name
    for place, tie in enumerate(rows):
        if not is_tuple_of(tie, 2) or tie[0] not in names or tie[1] not in names:
            raise BadTie(place)
        old = groups[tie[0]]
        new = groups[tie[1]]
        if old == new:
            raise BadTie(place)
        for name in names:
            groups[name] = new if groups[name] == old else groups[name]
    return rows


def judge_things(books, ties):
    """Unlike for a thing that differs in two houses, then Apart for one whose houses are not
    joined among themselves."""
    found = {}
    owners = {}
    for house, book in books.items():
        for name in book.charter:
            if found.setdefault(name, book.charter[name]) != book.charter[name]:
                raise Unlike(name)
            owners.setdefault(name, []).append(house)
    for name in owners:
        among = [tie for tie in ties if tie[0] in owners[name] and tie[1] in owners[name]]
        # Ties make no rings, so fewer of them than this do not join so many houses.
        if len(among) < len(owners[name]) - 1:
            raise Apart(name)


def shared_spots(charter, others):
    """The ground and the spots of all things that one of the other charters has as well."""
    names = [name for name in charter if any([other.sort_of(name) in THINGS for other in others])]
    return tuple([spot for spot in charter.all_spots() if spot == GROUND or spot[0] in names])


class Member:
    """A house: its book, and the spots that it shares with any of the houses that it is tied to.
    It never changes."""

    def __init__(self, book, spots):
        self.book = book
        self.spots = spots
        self._card = None

    def own_card(self):
        """The card of the book for the shared spots; Clash."""
        if self._card is None:
            self._card = card_of(web_of(self.book), self.spots)
        return self._card


class Status:
    """What changes in a league: it is exchanged as a whole. latest has the numbers of the letters
    that are kept, by the pairs (receiver, sender); drafts has the cards that would be sent now,
    by the pairs (sender, receiver), as far as they were asked for."""

    def __init__(self, members, letters, latest, drafts):
        self.members = members
        self.letters = letters
        self.latest = latest
        self.drafts = drafts

    def drafts_beside(self, house):
        """The drafts that stay when a house knows something else."""
        return {tie: self.drafts[tie] for tie in self.drafts if tie[0] != house}
