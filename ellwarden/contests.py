"""Contests for a question: a world in which its value is good and one in which it is bad, which
agree on some probes; or a paper that there are none."""

from ellwarden.errors import NoSpot
from ellwarden.frames import Frame
from ellwarden.programs import Program
from ellwarden.ratios import common_below, compare, minus, ratio, times_whole
from ellwarden.worlds import GROUND


class Contest:
    """A web with some questions and probes; NoSpot, then Clash."""

    def __init__(self, web, questions, probes):
        places = {GROUND: 0}
        for spot in _spots_of(questions, probes):
            if spot not in web:
                raise NoSpot(spot)
            if spot not in places:
                places[spot] = len(places)
        self._places = places
        self._frame = Frame(web, list(places)[1:])
        self._bounds = self._frame.slim_bounds()
        self._probes = probes

    def decide(self, question, numbers):
        """For a question and the probes with these numbers, a pair of worlds and None; or None
        and a paper."""
        aim = Aim(question, self._places)
        values, shares = self._frame.best([-factor for factor in aim.factors])
        least = sum([factor * value for factor, value in zip(aim.factors, values)])
        if least > aim.good:
            return (None, self._links_told("good", shares, aim.many) + (((1, 1), ("limit", "good")),))
        program = self._program(aim, [0, *values], aim.good - least, numbers)
        if program.climb(aim.bad - least):
            return (self._worlds_at([0, *values], program), None)
        return (None, self._paper(aim, program, numbers))

    def _program(self, aim, values, room, numbers):
        """To make the value in the bad world great, by what is added to these values in the good
        world, then in the bad one; room is left for it in the good one."""
        still = [0] * len(aim.factors)
        rows = []
        limits = []
        for start, goal, bound in self._bounds:
            step = self._row_of(start, goal)
            rows.extend([step + still, still + step])
            limits.extend([bound - values[goal] + values[start]] * 2)
        for number in numbers:
            a, b, slack = self._probes[number]
            step = self._row_of(self._places[a], self._places[b])
            back = [-part for part in step]
            rows.extend([back + step, step + back])
            limits.extend([2 * slack] * 2)
        return Program(rows + [aim.factors + still], limits + [room], still + aim.factors)

    def _row_of(self, start, goal):
        """The factors of the value at a place less that at another one."""
        factors = [0] * len(self._places)
        factors[start] = -1
        factors[goal] = 1
        # The ground is always 0.
        return factors[1:]

    def _worlds_at(self, values, program):
        """The worlds that a program has found."""
        many = len(self._places) - 1
        added = program.found_values()
        whole = [value * program.divisor for value in values]
        found = []
        for part in (added[:many], added[many:]):
            numbers = [value + more for value, more in zip(whole, [0, *part])]
            found.append(self._frame.world_of(numbers, program.divisor))
        return tuple(found)

    def _paper(self, aim, program, numbers):
        """The paper that a program makes which cannot reach the bad limit."""
        shares = program.weights()
        many = program.divisor * aim.many
        good = [[0] * len(self._places) for _ in self._places]
        bad = [[0] * len(self._places) for _ in self._places]
        for at, (start, goal, _) in enumerate(self._bounds):
            good[start][goal] = shares[2 * at]
            bad[start][goal] = shares[2 * at + 1]
        told = [(program.divisor, ("limit", "bad")), (shares[-1], ("limit", "good"))]
        paper = [(ratio(share, program.divisor), item) for share, item in told if share > 0]
        behind = shares[2 * len(self._bounds):-1]
        for at, share in enumerate(behind):
            if share > 0:
                item = ("probe", numbers[at // 2], 1 if at % 2 == 0 else -1)
                paper.append((ratio(share, many), item))
        return self._links_told("good", good, many) + self._links_told("bad", bad, many) + tuple(paper)

    def _links_told(self, word, shares, many):
        """The items for the links of the good or the bad world."""
        return tuple([(multiplier, (word, link)) for multiplier, link in self._frame.paper_of(shares, many)])


class Aim:
    """A question in whole numbers: in the good world the sum of factor times value is at most
    good, in the bad one it is at least bad. All is many times what the question tells, with the
    other sign if its lower limit is the bad one."""

    def __init__(self, question, places):
        (terms, rest), G, N = question
        ends = [minus(G, rest), minus(N, rest)]
        self.many = common_below([factor for _, factor in terms] + ends)
        sign = compare(N, G)
        self.factors = [0] * (len(places) - 1)
        for spot, factor in terms:
            self.factors[places[spot] - 1] = sign * times_whole(factor, self.many)
        self.good, self.bad = [sign * times_whole(end, self.many) for end in ends]


def _spots_of(questions, probes):
    """The spots of questions, then of probes, in the order in which they are told."""
    spots = []
    for form, _, _ in questions:
        spots.extend([spot for spot, _ in form[0]])
    for a, b, _ in probes:
        spots.extend([a, b])
    return spots
