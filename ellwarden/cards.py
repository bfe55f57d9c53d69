"""Cards: some spots of a web, and the bounds between each two of them."""

from ellwarden.checks import is_integer, is_row
from ellwarden.errors import BadCard, BadSpot, Clash, NoSpot
from ellwarden.nets import heights_and_ring, ways_from
from ellwarden.slips import Slip
from ellwarden.tables import is_closed, joined_tables, lowered
from ellwarden.webs import Web, arrows_of, places_of
from ellwarden.worlds import GROUND, is_spot

WHY = ("card",)


class Card:
    """Spots, the ground first, and a closed table of bounds: a row for each spot."""

    def __init__(self, spots, rows):
        self.spots = tuple(spots) if is_row(spots) else ()
        try:
            self._places = places_of(self.spots)
        except BadSpot as bad:
            raise BadCard(bad.place) from None
        _judge_rows(rows, len(self.spots))
        self.rows = tuple([tuple(row) for row in rows])

    def __getitem__(self, at):
        a, b = at
        return self.rows[self._place(a)][self._place(b)]

    def __len__(self):
        return len(self.spots)

    def __iter__(self):
        return iter(self.spots)

    def __contains__(self, x):
        return is_spot(x) and x in self._places

    def __eq__(self, other):
        return isinstance(other, Card) and self.spots == other.spots and self.rows == other.rows

    def __and__(self, other):
        if not isinstance(other, Card):
            return NotImplemented
        spots = self.spots + tuple([spot for spot in other.spots if spot not in self])
        places = places_of(spots)
        rows = joined_tables(self.rows, other.rows, [places[spot] for spot in other.spots])
        if rows is None:
            raise Clash(_clash_ring(card_links(self, WHY) + card_links(other, WHY), places))
        return _trusted(spots, rows)

    def cut(self, spots):
        """The card of some of its spots."""
        named = _named_once(spots, self)
        places = [self._places[spot] for spot in named]
        return _trusted(named, [[self.rows[a][b] for b in places] for a in places])

    def entered(self, a, b, bound):
        """The card with a further link between two of its spots."""
        start = self._place(a)
        goal = self._place(b)
        back = self.rows[goal][start]
        if back + bound < 0:
            raise Clash(((a, b, bound, WHY), (b, a, back, WHY)))
        return _trusted(self.spots, lowered(self.rows, start, goal, bound))

    def as_web(self):
        """The web of all links that the bounds make."""
        return Web(self.spots, card_links(self, WHY))

    def _place(self, spot):
        if spot not in self:
            raise NoSpot(spot)
        return self._places[spot]


def card_of(web, spots):
    """The card of a web for some spots."""
    named = _named_once(spots, web)
    return _trusted(named, [web.bounds_from(spot, named) for spot in named])


def pressed(slip):
    """The slip with the card of its web for its own spots, as a web, in the place of its web."""
    web = card_of(slip.web, slip.own_spots()).as_web()
    return Slip(slip.charter, slip.procedure, slip.day, slip.features, slip.devices, web, slip.roles)


def card_links(card, why):
    """The links that the bounds of a card make, all with the same why."""
    links = []
    for a, row in zip(card.spots, card.rows):
        links.extend([(a, b, bound, why) for b, bound in zip(card.spots, row) if a != b])
    return links


def _named_once(spots, known):
    """The ground, then the spots, each once; NoSpot for the first that is not known."""
    named = {GROUND: True}
    for spot in spots:
        if spot not in known:
            raise NoSpot(spot)
        named[spot] = True
    return tuple(named)


def _trusted(spots, rows):
    """The card of a table that is known to be closed: to judge a large one takes long."""
    made = Card((GROUND,), ((0,),))
    made.spots = spots
    made._places = places_of(spots)
    made.rows = tuple([tuple(row) for row in rows])
    return made


def _judge_rows(rows, many):
    """BadCard for the first of so many rows that is none, or for a table that is no closed one."""
    told = rows if is_row(rows) else ()
    for place, row in enumerate(told[:many]):
        if not is_row(row) or len(row) != many or not all([is_integer(bound) for bound in row]) or row[place] != 0:
            raise BadCard(place)
    if len(told) != many or not is_closed(told):
        raise BadCard(-1)


def _clash_ring(links, places):
    """A ring of these links whose bound is below 0; there is one."""
    arrows = arrows_of(links, places)
    _, numbers = heights_and_ring(arrows, ways_from(len(places), arrows))
    return tuple([links[number] for number in numbers])
