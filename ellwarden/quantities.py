"""The ends of quantities in webs, and verdicts on them."""

from ellwarden.ends import End, greatest, least
from ellwarden.errors import NoQuotient
from ellwarden.forms import form_of
from ellwarden.outlines import Outline
from ellwarden.ratios import compare, minus, over, plus, times


def ends(web, quantity):
    """The pair of the least and the greatest value of a quantity in all worlds of a web."""
    if quantity[0] == "sum":
        form = form_of(quantity[1])
        return (least(web, form), greatest(web, form))
    word, x, y, scale, _ = quantity
    outline = Outline(web, form_of(x), form_of(y))
    if word == "quotient":
        _ask_for_divisor(outline)
        stops = _corner_stops(outline)
        values = [times(scale, over(point[0], point[1])) for point, _, _ in stops]
    else:
        stops = _corner_stops(outline) + _turning_stops(outline)
        values = [times(scale, times(point[0], point[1])) for point, _, _ in stops]
    found = []
    for place in _low_and_high(values):
        _, rows, weights = stops[place]
        found.append(End(values[place], outline.frame.blend(rows, weights), None))
    return tuple(found)


def _low_and_high(values):
    """The places of the least and of the greatest of some ratios."""
    low = 0
    high = 0
    for place, value in enumerate(values):
        low = place if compare(value, values[low]) < 0 else low
        high = place if compare(value, values[high]) > 0 else high
    return (low, high)


def _corner_stops(outline):
    """The corners of an outline: triples of a point, and of rows of values and weights with
    which a world has this point."""
    return [(point, [row], [(1, 1)]) for point, row in zip(outline.points, outline.rows)]


def _turning_stops(outline):
    """The points within sides at which the product of both coordinates turns, as triples."""
    stops = []
    for place, goal in enumerate(outline.points):
        start = outline.points[place - 1]
        dx = minus(goal[0], start[0])
        dy = minus(goal[1], start[1])
        # Along the side the product is start + part * slope + part * part * bend.
        bend = times(dx, dy)
        slope = plus(times(start[0], dy), times(start[1], dx))
        if bend[0] == 0:
            continue
        part = over(slope, times((-2, 1), bend))
        if compare(part, (0, 1)) > 0 and compare(part, (1, 1)) < 0:
            point = (plus(start[0], times(part, dx)), plus(start[1], times(part, dy)))
            rows = [outline.rows[place - 1], outline.rows[place]]
            stops.append((point, rows, [minus((1, 1), part), part]))
    return stops


def _ask_for_divisor(outline):
    """NoQuotient if the second form is 0 in some world."""
    low, high = _low_and_high([y for _, y in outline.points])
    below = outline.points[low][1]
    above = outline.points[high][1]
    if below[0] > 0 or above[0] < 0:
        return
    # Between two corners of which one is not above 0 and the other one not below it.
    weights = [above, minus((0, 1), below)] if below[0] < 0 else [(1, 1), (0, 1)]
    raise NoQuotient(outline.frame.blend([outline.rows[low], outline.rows[high]], weights))


class Verdict:
    """What is said of a quantity and its limits, with a good and a bad world if it is open."""

    def __init__(self, word, good, bad):
        self.word = word
        self.good = good
        self.bad = bad

    def __bool__(self):
        return bool(self.word != "open")


def verdict(web, quantity, G, N):
    """The verdict on a quantity in a web, with the limits G and N."""
    return judged(ends(web, quantity), G, N)


def judged(pair, G, N):
    """The verdict on a quantity with these ends."""
    lowest, highest = pair
    if compare(G, N) < 0:
        best, worst = lowest, highest
    else:
        best, worst = highest, lowest
    if compare(worst.value, N) == compare(G, N):
        return Verdict("passed", None, None)
    if compare(best.value, G) == compare(N, G):
        return Verdict("failed", None, None)
    return Verdict("open", best.reached, worst.reached)
