"""Frames: some spots of a web with the bounds between them. What is greatest in all values that
keep these bounds is greatest in the web, as such values are those of some world."""

from ellwarden.errors import NoSpot
from ellwarden.flows import cheapest
from ellwarden.nets import needed, ways_from
from ellwarden.ratios import common_below, ratio, times_whole
from ellwarden.worlds import GROUND, World


class Frame:
    """Some spots other than the ground, each once; NoSpot, then Clash."""

    def __init__(self, web, spots):
        for spot in spots:
            if spot not in web:
                raise NoSpot(spot)
        self._web = web
        self._spots = [GROUND, *spots]
        self._bounds = [web.bounds_from(spot, self._spots) for spot in self._spots]

    def slim_bounds(self):
        """The bounds from which all others follow: triples of two places, the ground being at 0,
        and the bound from the first one to the second one."""
        arrows = []
        for start, row in enumerate(self._bounds):
            arrows.extend([(start, goal, bound) for goal, bound in enumerate(row) if goal != start])
        numbers = needed(arrows, ways_from(len(self._spots), arrows), self._bounds[0])
        return [arrows[number] for number in numbers]

    def best(self, needs):
        """The pair of the values of the spots, integers, for which the sum of need times value
        is greatest, and of the shares that prove it; needs are integers."""
        heights, shares = cheapest(self._bounds, [-sum(needs)] + needs)
        return (heights[1:], shares)

    def paper_of(self, shares, many):
        """The paper that shares make, each of them divided by many."""
        found = {}
        for start, row in zip(self._spots, shares):
            for goal, share in zip(self._spots, row):
                if share > 0:
                    for link in self._web.chain(start, goal):
                        found[link] = found.get(link, 0) + share
        return tuple([(ratio(total, many), link) for link, total in found.items()])

    def blend(self, rows, weights):
        """A world in which the spots have the mean of some rows of values, by the weights:
        ratios from 0 on, one of them above 0."""
        common = common_below(weights)
        whole = [times_whole(weight, common) for weight in weights]
        numbers = [0] * len(self._spots)
        for row, weight in zip(rows, whole):
            numbers = [number + weight * value for number, value in zip(numbers, [0, *row])]
        return self.world_of(numbers, sum(whole))

    def world_of(self, numbers, many):
        """The world with the greatest values of all other spots, where those of the ground and
        the spots are these numbers, divided by many."""
        spots = self._web.spots
        greatest = [None] * len(spots)
        for number, start in zip(numbers, self._spots):
            reach = [number + many * bound for bound in self._web.bounds_from(start, spots)]
            greatest = [new if old is None or new < old else old for old, new in zip(greatest, reach)]
        return World([(spot, ratio(number, many)) for spot, number in zip(spots, greatest)])
