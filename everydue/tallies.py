"""Counting what sides and daysets hold, and finding the integers that are counted."""

from everydue.borders import paired
from everydue.sides import count_below


class Row:
    """Some runs, and how many integers lie in them."""

    def __init__(self, runs):
        self.starts = []
        self.sums = []
        self.many = 0
        for begin, end in runs:
            self.starts.append(begin)
            self.sums.append(self.many)
            self.many += end - begin

    def below(self, mark):
        """Returns how many integers less than a mark lie in the runs."""
        place = count_below(self.starts, mark)
        if place == 0:
            return 0
        behind = self.sums[place] if place < len(self.sums) else self.many
        return min(behind, self.sums[place - 1] + mark - self.starts[place - 1])

    def at(self, index):
        """Returns the integer in the runs of which so many lie ahead."""
        place = count_below(self.sums, index + 1) - 1
        return self.starts[place] + index - self.sums[place]


class SideTally:
    """The numbers of all integers in a side, counted from the first one that is not less than 0."""

    def __init__(self, side):
        period, borders, inside = side
        self.period = period
        if borders and borders[0] == 0:
            self.row = Row(paired(0, not inside, borders[1:], period))
        else:
            self.row = Row(paired(0, inside, borders, period))
        self.many = self.row.many

    def below(self, mark):
        """Returns the number of the first integer of the side from mark on."""
        turns, rest = divmod(mark, self.period)
        return turns * self.many + self.row.below(rest)

    def at(self, index):
        """Returns the integer with a number; the side holds some."""
        turns, rest = divmod(index, self.many)
        return turns * self.period + self.row.at(rest)


class Tally:
    """The numbers of all integers in a dayset, counted from the first one that is not less than its low."""

    def __init__(self, dayset):
        left, self.low, runs, self.high, right = dayset
        self.left = SideTally(left)
        self.row = Row(runs)
        self.right = SideTally(right)

    def below(self, mark):
        """Returns the number that the first integer of the dayset from mark on has, or would have."""
        if mark <= self.low:
            return self.left.below(mark) - self.left.below(self.low)
        if mark <= self.high:
            return self.row.below(mark)
        return self.row.many + self.right.below(mark) - self.right.below(self.high)

    def at(self, index):
        """Returns the integer with a number, which is in the dayset or greater than all; None if there is none."""
        if index < 0:
            return self.left.at(self.left.below(self.low) + index)
        if index < self.row.many:
            return self.row.at(index)
        if self.right.many == 0:
            return None
        return self.right.at(self.right.below(self.high) + index - self.row.many)
