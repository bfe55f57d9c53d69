"""The cheapest sending between a few places, on plain integers.

The costs are closed: none is above that of a way round. Places with a need below 0 send, those
with one above 0 take; the needs come to 0. The heights that are found along with the shares
differ from one place to another by at most the cost, and by just the cost where there is a
share: so nothing is cheaper, and no other heights have a greater sum of need times height.
"""


def cheapest(costs, needs):
    """The pair of the heights, that of place 0 being 0, and of the shares: a row for each
    place with what it sends to each place."""
    sending = Sending(costs, needs)
    for start in range(len(needs)):
        while sending.left[start] < 0:
            sending.send_from(start)
    return ([height - sending.heights[0] for height in sending.heights], sending.shares)


class Sending:
    """What has been sent so far, with heights to which no share so far is too dear."""

    def __init__(self, costs, needs):
        many = len(needs)
        self._costs = costs
        self.left = list(needs)
        self.heights = list(costs[0])
        self.shares = [[0] * many for _ in range(many)]

    def send_from(self, start):
        """Sends from a place what can go the cheapest way to a place that takes something."""
        ways, last = self._ways_from(start)
        self.heights = [height + way for height, way in zip(self.heights, ways)]
        goal = None
        for place, need in enumerate(self.left):
            if need > 0 and (goal is None or ways[place] < ways[goal]):
                goal = place
        steps = _steps_to(goal, last)
        many = min([-self.left[start], self.left[goal]] + self._shares_back(steps))
        for here, there in steps:
            if self._slope(here, there) == 0:
                self.shares[here][there] += many
            else:
                self.shares[there][here] -= many
        self.left[start] += many
        self.left[goal] -= many

    def _slope(self, here, there):
        """How much dearer it is to send from here to there than the heights tell."""
        return self._costs[here][there] + self.heights[here] - self.heights[there]

    def _shares_back(self, steps):
        """The shares that steps take back, which bound how much can go along them."""
        return [self.shares[there][here] for here, there in steps if self._slope(here, there) > 0]

    def _ways_from(self, start):
        """For each place how far the heights must rise there, and the place ahead of it on the
        cheapest way from start; of ways that cost alike, one with the fewest steps."""
        many = len(self.left)
        best = [None] * many
        last = [None] * many
        best[start] = 0
        ahead = list(range(many))
        while len(ahead) > 0:
            here = _nearest(ahead, best)
            ahead.remove(here)
            costs = self._costs[here]
            height = self.heights[here]
            for there in ahead:
                # A share can be taken back, for what it cost.
                slope = 0 if self.shares[there][here] > 0 else costs[there] + height - self.heights[there]
                total = best[here] + slope * many + 1
                if best[there] is None or total < best[there]:
                    best[there] = total
                    last[there] = here
        return ([total // many for total in best], last)


def _nearest(ahead, best):
    """The first of the places ahead with the least total."""
    found = None
    for place in ahead:
        if best[place] is not None and (found is None or best[place] < best[found]):
            found = place
    return found


def _steps_to(goal, last):
    """The steps of the way to a place, pairs of places, the last one first."""
    steps = []
    while last[goal] is not None:
        steps.append((last[goal], goal))
        goal = last[goal]
    return steps
