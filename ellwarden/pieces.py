"""Pieces of webs, links that follow from webs, and slim webs."""

from ellwarden.checks import is_row
from ellwarden.errors import BadWorld
from ellwarden.nets import needed, ways_from
from ellwarden.webs import Web, arrows_of, places_of
from ellwarden.worlds import GROUND, World


def pieces(web):
    """The spots that links join without the ground, in the order of the web."""
    beside = {}
    for a, b, _, _ in web.links:
        if a != GROUND and b != GROUND:
            beside.setdefault(a, []).append(b)
            beside.setdefault(b, []).append(a)
    found = {}
    numbers = {}
    for spot in web.spots[1:]:
        if spot not in numbers:
            _number_all(spot, beside, numbers)
        found.setdefault(numbers[spot], []).append(spot)
    return tuple([tuple(piece) for piece in found.values()])


def _number_all(start, beside, numbers):
    """Gives a new number to a spot and to all that are joined with it."""
    number = len(numbers)
    ahead = [start]
    while len(ahead) > 0:
        spot = ahead.pop()
        if spot not in numbers:
            numbers[spot] = number
            ahead.extend(beside.get(spot, []))


def put_together(web, worlds):
    """The world with the values of each piece from the world at its place."""
    told = list(worlds) if is_row(worlds) else []
    rows = pieces(web)
    values = {}
    for place, (piece, world) in enumerate(zip(rows, told)):
        for spot in piece:
            if not isinstance(world, World) or spot not in world:
                raise BadWorld(place)
            values[spot] = world[spot]
    if len(told) != len(rows):
        raise BadWorld(min(len(told), len(rows)))
    return World([(GROUND, (0, 1))] + [(spot, values[spot]) for spot in web.spots[1:]])


def follows(web, link):
    """Whether all worlds of a web keep a link."""
    a, b, bound, _ = link
    return web.bound(a, b) <= bound


def slim(web):
    """The web without the links that follow from those that are left."""
    world = web.highest()
    heights = [world[spot][0] for spot in web.spots]
    arrows = arrows_of(web.links, places_of(web.spots))
    numbers = needed(arrows, ways_from(len(web.spots), arrows), heights)
    return Web(web.spots, [web.links[number] for number in numbers])
