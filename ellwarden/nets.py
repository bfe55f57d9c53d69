"""Shortest ways in a net: places from 0 on, and arrows (start, goal, weight) between them.

Plain integers stand for spots and for the numbers of links here, so that the web can keep
what is found as long as it lives.
"""

from heapq import heappop, heappush


def ways_from(many, arrows):
    """For each place the numbers of the arrows that begin there, in order."""
    ways = [[] for _ in range(many)]
    for number, arrow in enumerate(arrows):
        ways[arrow[0]].append(number)
    return ways


def turned(arrows):
    """The arrows the other way round."""
    return [(goal, start, weight) for start, goal, weight in arrows]


def reached(arrows, ways):
    """For each place whether arrows lead to it from place 0."""
    found = [False] * len(ways)
    found[0] = True
    queue = [0]
    at = 0
    while at < len(queue):
        here = queue[at]
        for number in ways[here]:
            goal = arrows[number][1]
            if not found[goal]:
                found[goal] = True
                queue.append(goal)
        at += 1
    return found


def heights_and_ring(arrows, ways, known=None):
    """The pair of a height for each place, which no arrow raises by more than its weight, and
    None; if there is a ring of arrows with a weight below 0, the pair of None and its numbers
    in order. The heights are the least weights of ways from place 0; known may have heights
    that keep most arrows, and then they are those that come of lowering these."""
    last = [None] * len(ways)
    if known is None:
        heights = [None] * len(ways)
        heights[0] = 0
        active = [0]
    else:
        heights = list(known)
        active = list(range(len(ways)))
    while len(active) > 0:
        lowered = {}
        for place in active:
            for number in ways[place]:
                goal = arrows[number][1]
                height = heights[place] + arrows[number][2]
                if heights[goal] is None or height < heights[goal]:
                    heights[goal] = height
                    last[goal] = number
                    lowered[goal] = True
        # Where the arrows by which places were lowered last make a ring, its weight is
        # below 0; and with such a ring in the net they make one sooner or later.
        ring = _ring_of(arrows, last)
        if ring is not None:
            return (None, ring)
        active = list(lowered)
    return (heights, None)


def _ring_of(arrows, last):
    """The numbers of the arrows of a ring among the last ones, in order, or None."""
    walks = [None] * len(last)
    for walk in range(len(last)):
        at = walk
        while walks[at] is None and last[at] is not None:
            walks[at] = walk
            at = arrows[last[at]][0]
        if walks[at] == walk:
            return _followed_back(arrows, last, at, at)
        walks[at] = walk
    return None


def _followed_back(arrows, last, start, goal):
    """The numbers of the last arrows, in order, one or more, that lead from start to goal."""
    row = [last[goal]]
    at = arrows[last[goal]][0]
    while at != start:
        row.append(last[at])
        at = arrows[last[at]][0]
    return row[::-1]


def nearest(arrows, ways, heights, start):
    """The pair of the least weights of ways from start to each place, and for each place the
    number of the last arrow of such a way (None for start)."""
    best = [None] * len(ways)
    last = [None] * len(ways)
    done = [False] * len(ways)
    best[start] = 0
    queue = [(0, start)]
    while len(queue) > 0:
        cost, place = heappop(queue)
        if done[place]:
            continue
        done[place] = True
        for number in ways[place]:
            _, goal, weight = arrows[number]
            # The heights make each step 0 or more, so that the nearest place is final.
            total = cost + weight + heights[place] - heights[goal]
            if best[goal] is None or total < best[goal]:
                best[goal] = total
                last[goal] = number
                heappush(queue, (total, goal))
    weights = [best[at] - heights[start] + heights[at] for at in range(len(ways))]
    return (weights, last)


def way(arrows, last, start, goal):
    """The numbers of the arrows of the way from start to goal that nearest found."""
    if start == goal:
        return []
    return _followed_back(arrows, last, start, goal)


def needed(arrows, ways, heights):
    """The numbers of the arrows that stay when, one by one in their order, each one is left out
    for which a way of those that are still there does not weigh more."""
    there = [True] * len(arrows)
    for number, arrow in enumerate(arrows):
        there[number] = False
        there[number] = not _has_way(arrows, ways, there, heights, arrow)
    return [number for number, stays in enumerate(there) if stays]


def _has_way(arrows, ways, there, heights, arrow):
    """Whether a way of the arrows that are there leads where an arrow leads, and does not weigh
    more."""
    start, goal, most = arrow
    # As in nearest, no step is below 0, so that what is beyond the limit stays there.
    limit = most + heights[start] - heights[goal]
    best = {start: 0}
    queue = [(0, start)]
    while len(queue) > 0:
        cost, place = heappop(queue)
        if place == goal:
            return True
        for number in ways[place]:
            _, further, weight = arrows[number]
            total = cost + weight + heights[place] - heights[further]
            if there[number] and total <= limit and (further not in best or total < best[further]):
                best[further] = total
                heappush(queue, (total, further))
    return False
