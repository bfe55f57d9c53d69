"""Linear programs in whole numbers, on which pairs and papers for probes rest ([46])."""

import itertools
import random
import unittest
from fractions import Fraction

from ellwarden.programs import Program


def best_of(rows, limits, goal):
    """The greatest value of the goal for two values, at a corner of the limits."""
    found = [Fraction(0)]
    for first, second in itertools.combinations(range(len(rows)), 2):
        (a, b), (c, d) = rows[first], rows[second]
        turn = a * d - b * c
        if turn:
            point = (Fraction(limits[first] * d - b * limits[second], turn), Fraction(a * limits[second] - limits[first] * c, turn))
            if all(p * point[0] + q * point[1] <= limit for (p, q), limit in zip(rows, limits)):
                found.append(goal[0] * point[0] + goal[1] * point[1])
    return max(found)


class Programs(unittest.TestCase):
    def check(self, rows, limits, goal, target):
        """What is found keeps all limits and comes to the target, or what is told shows that none can."""
        program = Program(rows, limits, goal)
        if program.climb(target):
            values = [Fraction(value, program.divisor) for value in program.found_values()]
            for row, limit in zip(rows, limits):
                self.assertLessEqual(sum(factor * value for factor, value in zip(row, values)), limit)
            self.assertGreaterEqual(sum(factor * value for factor, value in zip(goal, values)), target)
            return True
        weights = [Fraction(share, program.divisor) for share in program.weights()]
        self.assertEqual(len(weights), len(rows))
        self.assertGreaterEqual(min(weights), 0)
        self.assertEqual([sum(weight * row[at] for weight, row in zip(weights, rows)) for at in range(len(goal))], goal)
        self.assertLess(sum(weight * limit for weight, limit in zip(weights, limits)), target)
        return False

    def test_a_square(self):
        rows, limits = [[1, 0], [-1, 0], [0, 1], [0, -1]], [3, 2, 5, 7]
        for goal, best in (([1, 1], 8), ([-1, 0], 2), ([2, -3], 27), ([0, 0], 0)):
            for target, told in ((best - 1, True), (best, True), (best + 1, False)):
                self.assertEqual(self.check(rows, limits, goal, target), told)

    def test_a_target_that_is_reached_at_once(self):
        self.assertTrue(self.check([[1], [-1]], [0, 0], [1], 0))
        self.assertFalse(self.check([[1], [-1]], [0, 0], [1], 1))

    def test_two_values(self):
        rng = random.Random(1)
        seen = {True: 0, False: 0}
        for _ in range(300):
            rows = [[1, 0], [-1, 0], [0, 1], [0, -1]] + [[rng.randint(-3, 3), rng.randint(-3, 3)] for _ in range(rng.randint(0, 5))]
            limits = [rng.choice((0, 0, 1, 4, 9)) for _ in rows]
            goal = [rng.randint(-4, 4), rng.randint(-4, 4)]
            best = best_of(rows, limits, goal)
            for target in (best.__floor__(), best.__floor__() + 1, rng.randint(0, 30)):
                told = self.check(rows, limits, goal, target)
                self.assertEqual(told, target <= best)
                seen[told] += 1
        self.assertGreater(min(seen.values()), 100)

    def test_many_values_with_limits_at_0(self):
        # With limits at 0 the values stand still for long; still it comes to an end.
        rng = random.Random(2)
        for _ in range(60):
            many = rng.randint(3, 7)
            rows = []
            for at in range(many):
                for sign in (1, -1):
                    rows.append([sign if place == at else 0 for place in range(many)])
            for _ in range(15):
                rows.append([rng.choice((-1, 0, 0, 1)) for _ in range(many)])
            limits = [9] * (2 * many) + [0] * 15
            goal = [rng.randint(-3, 3) for _ in range(many)]
            for target in (0, 1, 5, 40):
                self.check(rows, limits, goal, target)


if __name__ == "__main__":
    unittest.main()
