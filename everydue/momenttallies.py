"""Counting the moments of a minuteset, and finding those that are counted."""

from everydue.dayparts import parts_of
from everydue.daysets import holds
from everydue.tallies import Tally


class MomentTally:
    """The numbers of all moments of a minuteset, counted from one that does not matter."""

    def __init__(self, calendar, minuteset):
        self.minutes = calendar[6]
        self.parts = parts_of(calendar, minuteset)
        self.tallies = [Tally(dayset) for _, _, dayset in self.parts]

    def below(self, mark):
        """Returns the number that the first moment from a mark on has, or would have."""
        day, minute = divmod(mark, self.minutes)
        total = 0
        for (begin, end, dayset), tally in zip(self.parts, self.tallies):
            total += tally.below(day) * (end - begin)
            if begin < minute and holds(dayset, day):
                total += min(end, minute) - begin
        return total

    def nth_from(self, moment, number):
        """Returns the moment with a number, counted from 1 from a moment on, or None."""
        wanted = self.below(moment) + number
        if all([tally.right.many == 0 for tally in self.tallies]):
            last = max([tally.high for tally in self.tallies]) * self.minutes
            if self.below(last) < wanted:
                return None
        step = number
        while self.below(moment + step) < wanted:
            step *= 2
        low, high = moment, moment + step
        # Up to low there are too few moments, up to high enough of them.
        while high - low > 1:
            middle = (low + high) // 2
            if self.below(middle) < wanted:
                low = middle
            else:
                high = middle
        return low
