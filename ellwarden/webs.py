"""Webs: spots, the ground first, and links between them that bound their values."""

from ellwarden.checks import is_integer, is_tuple_of
from ellwarden.errors import BadLink, BadSpot, Clash, Loose, NoSpot
from ellwarden.nets import heights_and_ring, nearest, reached, turned, way, ways_from
from ellwarden.worlds import GROUND, World, is_spot


class Web:
    """Spots and links. What is reckoned once is kept, as a web never changes."""

    def __init__(self, spots, links):
        self.spots = tuple(spots)
        self._places = places_of(self.spots)
        self.links = tuple(links)
        _judge_links(self.links, self._places)
        self._arrows = arrows_of(self.links, self._places)
        self._ways = ways_from(len(self.spots), self._arrows)
        _judge_chains(self.spots, self._arrows, self._ways)
        # Values of some world, once they are known, and values that keep all but a few links.
        self._heights = None
        self._near = None
        self._ring = None
        self._found = {}

    def __contains__(self, x):
        return is_spot(x) and x in self._places

    def __len__(self):
        return len(self.links)

    def __iter__(self):
        return iter(self.links)

    def __eq__(self, other):
        return isinstance(other, Web) and self.spots == other.spots and self.links == other.links

    def __add__(self, other):
        if not isinstance(other, Web):
            return NotImplemented
        new = [spot for spot in other.spots if spot not in self]
        return Web(self.spots + tuple(new), self.links + other.links)

    def bound(self, a, b):
        """The greatest value of b less that of a in all worlds."""
        start, goal = self._places_for(a, b)
        weights, _ = self._from(start)
        return weights[goal]

    def chain(self, a, b):
        """A chain from a to b whose bound is that from a to b."""
        start, goal = self._places_for(a, b)
        _, last = self._from(start)
        return self._links_at(way(self._arrows, last, start, goal))

    def reaching(self, a, b):
        """A world in which the value of b less that of a is the bound."""
        start, _ = self._places_for(a, b)
        weights, _ = self._from(start)
        return self._world([weight - weights[0] for weight in weights])

    def bad_ring(self):
        """A ring with a bound below 0, or None if there is a world."""
        if self._heights is None and self._ring is None:
            heights, numbers = heights_and_ring(self._arrows, self._ways, self._near)
            self._heights = heights
            self._ring = None if numbers is None else self._links_at(numbers)
        return self._ring

    def highest(self):
        """The world with the greatest value of each spot."""
        return self.reaching(GROUND, GROUND)

    def lowest(self):
        """The world with the least value of each spot."""
        self.ask_for_world()
        # From the ground, the other way round: these are the bounds from each spot to it.
        arrows = turned(self._arrows)
        depths, _ = heights_and_ring(arrows, ways_from(len(self.spots), arrows))
        return self._world([-depth for depth in depths])

    def allows(self, world):
        """Whether the world has all spots of the web and keeps all its links."""
        if not all([spot in world for spot in self.spots]):
            return False
        return all([world.keeps(link) for link in self.links])

    def more(self, links):
        """The web with these links behind its own."""
        new = tuple(links)
        _judge_links(new, self._places)
        made = self._with_links(self.links + new)
        made._near = self._near if self._heights is None else self._heights
        return made

    def without(self, whys):
        """The web without the links that have one of these whys; they must leave no spot loose."""
        made = self._with_links(tuple([link for link in self.links if link[3] not in whys]))
        made._heights = self._heights
        made._near = self._near
        return made

    def _with_links(self, links):
        """A web with these links, which were judged and leave no spot loose."""
        made = Web((GROUND,), ())
        made.spots = self.spots
        made._places = self._places
        made.links = links
        made._arrows = arrows_of(links, self._places)
        made._ways = ways_from(len(self.spots), made._arrows)
        return made

    def links_from(self, spot):
        """The links that begin at the spot, in order."""
        if spot not in self:
            raise NoSpot(spot)
        for number in self._ways[self._places[spot]]:
            yield self.links[number]

    def bounds_from(self, a, spots):
        """The row of the bounds from a spot to each of some spots of the web."""
        start, _ = self._places_for(a, a)
        weights, _ = self._from(start)
        return [weights[self._places[spot]] for spot in spots]

    def ask_for_world(self):
        """Clash if there is no world."""
        ring = self.bad_ring()
        if ring is not None:
            raise Clash(ring)

    def _places_for(self, a, b):
        """The places of two spots in a web with a world."""
        for spot in (a, b):
            if spot not in self:
                raise NoSpot(spot)
        self.ask_for_world()
        return (self._places[a], self._places[b])

    def _from(self, start):
        """The bounds from a place to all places, and the last links of chains with them."""
        if start not in self._found:
            self._found[start] = nearest(self._arrows, self._ways, self._heights, start)
        return self._found[start]

    def _links_at(self, numbers):
        return tuple([self.links[number] for number in numbers])

    def _world(self, values):
        """The world with integers as the values of the spots."""
        return World([(spot, (value, 1)) for spot, value in zip(self.spots, values)])


def arrows_of(links, places):
    """The links as arrows between the places of their spots."""
    return [(places[a], places[b], bound) for a, b, bound, _ in links]


def places_of(spots):
    """The dict of the places of the spots, judged one by one."""
    if len(spots) == 0:
        raise BadSpot(0)
    places = {}
    for place, spot in enumerate(spots):
        if not is_spot(spot) or spot in places:
            raise BadSpot(place)
        if place == 0 and spot != GROUND:
            raise BadSpot(place)
        places[spot] = place
    return places


def _judge_links(links, places):
    """BadLink for the first one that is no link between these spots."""
    for place, link in enumerate(links):
        if not is_link(link, places):
            raise BadLink(place)


def is_link(link, places):
    """Whether it is a link between two of these spots; places is anything that has them."""
    if not is_tuple_of(link, 4):
        return False
    a, b, bound, why = link
    if not is_spot(a) or not is_spot(b) or a not in places or b not in places or a == b:
        return False
    return is_integer(bound) and _is_why(why)


def _is_why(thing):
    """Whether it is a tuple that is not empty, of strings and integers."""
    if not isinstance(thing, tuple) or len(thing) == 0:
        return False
    return all([isinstance(item, str) or is_integer(item) for item in thing])


def _judge_chains(spots, arrows, ways):
    """Loose for the first spot to which, or from which to the ground, no chain leads."""
    there = reached(arrows, ways)
    back = turned(arrows)
    here = reached(back, ways_from(len(spots), back))
    for place, spot in enumerate(spots):
        if not there[place] or not here[place]:
            raise Loose(spot)
