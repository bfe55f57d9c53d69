"""Linear programs in whole numbers: which values are best under some limits, and why none are
better."""


class Program:
    """Free values for which each row, times the values, is at most its limit; the goal, times the
    values, is to be great. All are integers, the limits from 0 on, so that all values can be 0;
    and under the limits the goal is bounded.

    The values, then the rooms that are left under the limits, are numbered. Those that stand
    across the table are 0, those that stand down are the last items of their rows, divided by
    the common divisor."""

    def __init__(self, rows, limits, goal):
        self.divisor = 1
        self._many = len(goal)
        self._table = [[*row, limit] for row, limit in zip(rows, limits)]
        self._table.append([-factor for factor in goal] + [0])
        self._across = list(range(len(goal)))
        self._down = list(range(len(goal), len(goal) + len(rows)))
        self._signs = [1] * len(goal)

    def climb(self, target):
        """Looks for values with which the goal comes to the target; whether there are any."""
        while self._table[-1][-1] < target * self.divisor:
            column = self._entering()
            if column is None:
                return False
            self._exchange(self._leaving(column), column)
        return True

    def found_values(self):
        """The values that were found, times the divisor."""
        found = [0] * self._many
        for number, row in zip(self._down, self._table):
            if number < self._many:
                found[number] = row[-1] * self._signs[number]
        return found

    def weights(self):
        """When the target cannot be reached: for each row how often it is in the goal, times the
        divisor. The rows so often are the goal, and the limits so often are below the target."""
        found = [0] * len(self._down)
        for number, share in zip(self._across, self._table[-1]):
            if number >= self._many:
                found[number - self._many] = share
        return found

    def _entering(self):
        """A column that makes the goal greater, or None. Of rooms the first one is taken, here
        and in leaving: otherwise they could come and go for ever."""
        found = None
        for column, number in enumerate(self._across):
            slope = self._table[-1][column]
            if number < self._many and slope != 0:
                if slope > 0:
                    self._turn(column)
                return column
            if slope < 0 and (found is None or number < self._across[found]):
                found = column
        return found

    def _turn(self, column):
        """Takes a free value with the other sign."""
        number = self._across[column]
        self._signs[number] = -self._signs[number]
        self._table = [row[:column] + [-row[column]] + row[column + 1:] for row in self._table]

    def _leaving(self, column):
        """The place of the row whose room is used up first as the column grows."""
        found = None
        for place, number in enumerate(self._down):
            row = self._table[place]
            if number < self._many or row[column] <= 0:
                continue
            if found is not None:
                best = self._table[found]
                ahead = row[-1] * best[column] - best[-1] * row[column]
            if found is None or ahead < 0 or (ahead == 0 and number < self._down[found]):
                found = place
        return found

    def _exchange(self, place, column):
        """Exchanges what stands at a row with what stands at a column."""
        chosen = self._table[place]
        pivot = chosen[column]
        table = []
        for row in self._table:
            factor = row[column]
            # All items are whole, as they are determinants of what was told.
            new = [(pivot * item - factor * other) // self.divisor for item, other in zip(row, chosen)]
            new[column] = -factor
            table.append(new)
        table[place] = chosen[:column] + [self.divisor] + chosen[column + 1:]
        self._table = table
        self.divisor = pivot
        number = self._across[column]
        self._across[column] = self._down[place]
        self._down[place] = number
