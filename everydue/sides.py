"""Sides: sets of integers that repeat for ever (point 9)."""

from everydue.checks import is_flag, is_from_to, is_tuple, is_tuple_of

MOST_BORDERS = 40000

GREATEST_PERIOD = 10 ** 12


def is_side(value):
    """Returns whether a value is a side within the bounds of point 12."""
    if not is_tuple_of(value, 3):
        return False
    period, borders, inside = value
    if not is_from_to(period, 1, GREATEST_PERIOD) or not is_flag(inside):
        return False
    if not is_tuple(borders) or len(borders) > MOST_BORDERS or len(borders) % 2 == 1:
        return False
    least = 0
    for border in borders:
        if not is_from_to(border, least, period - 1):
            return False
        least = border + 1
    return True


def count_below(rows, mark):
    """Returns how many of some ascending rows are less than a mark."""
    low, high = 0, len(rows)
    while low < high:
        middle = (low + high) // 2
        if rows[middle] < mark:
            low = middle + 1
        else:
            high = middle
    return low


def side_holds(side, number):
    """Returns whether an integer is in a side."""
    period, borders, inside = side
    odd = count_below(borders, number % period + 1) % 2 == 1
    return inside != odd


def least_side(side):
    """Returns the least side with the same integers in it."""
    period, borders, inside = side
    if not borders:
        return (1, (), inside)
    steps = [two - one for one, two in zip(borders, borders[1:])]
    times = _repeats([*steps, borders[0] + period - borders[-1]])
    return (period // times, borders[:len(borders) // times], inside)


def _repeats(steps):
    """Returns how often the shortest part of even length stands in steps that are nothing but repeats of it."""
    # A part of odd length would lead from what is in the side to what is not.
    many = len(steps)
    for length in range(2, many, 2):
        if many % length == 0 and steps[length:] == steps[:many - length]:
            return many // length
    return 1


def side_of_runs(period, runs):
    """Returns the least side of the integers whose remainders, divided by a period, lie in some runs.

    The runs lie from 0 to the period, ascend and do not touch one another.
    """
    borders = [border for run in runs for border in run]
    inside = bool(borders) and borders[-1] == period
    if inside:
        # What holds the last remainder goes on at the first one, or ends there.
        borders.pop()
        borders = borders[1:] if borders[0] == 0 else [0, *borders]
    return least_side((period, tuple(borders), inside))


def side_of_rests(period, rests):
    """Returns the least side of the integers whose remainders, divided by a period, are in a list."""
    return side_of_runs(period, runs_of_days(sorted(set(rests))))


def runs_of_days(days):
    """Returns a list of the runs of some days, which ascend."""
    return touching_joined([(day, day + 1) for day in days])


def touching_joined(runs):
    """Returns a list of some ascending runs, with those made one that touch one another."""
    rows = []
    for begin, end in runs:
        if rows and rows[-1][1] == begin:
            rows[-1] = (rows[-1][0], end)
        else:
            rows.append((begin, end))
    return rows


def mirrored_side(side):
    """Returns the side of those x for which -x is in a side."""
    period, borders, _ = side
    turned = sorted([(1 - border) % period for border in borders])
    return (period, tuple(turned), side_holds(side, 1))


class Walk:
    """A walk along the borders of what a side holds from begin to end - 1.

    Below begin nothing counts as held; from end on each step leads to end again. So two such
    walks take the same steps just as long as what they walk along is the same.
    """

    def __init__(self, side, begin, end):
        period, borders, _ = side
        rest = begin % period
        self.period = period
        self.borders = borders
        self.end = end
        self.turn = begin - rest
        self.place = count_below(borders, rest + 1)
        self.ahead = begin if side_holds(side, begin) else self._border_behind()

    def step(self):
        """Goes to the next border and returns it."""
        border = self.ahead
        self.ahead = self._border_behind()
        return border

    def _border_behind(self):
        """Returns the next border of the side itself, or end."""
        if not self.borders:
            return self.end
        if self.place == len(self.borders):
            self.place = 0
            self.turn += self.period
        self.place += 1
        return min(self.turn + self.borders[self.place - 1], self.end)


def first_apart(one, two, begin):
    """Returns the least integer from begin on that is in just one of two sides; None if there is none."""
    if one == two:
        return None
    # What has two periods, over a stretch as long as both together, has their greatest common divisor
    # as a period, too: two sides that agree so far agree for ever.
    end = begin + one[0] + two[0]
    walk = Walk(one, begin, end)
    other = Walk(two, begin, end)
    while True:
        border = walk.step()
        mark = other.step()
        if border != mark:
            return min(border, mark)
        if border == end:
            return None


def first_apart_from_runs(side, runs, low, high):
    """Returns the least integer from low to high - 1 that is in just one of a side and the runs, or None.

    The runs lie from low to high.
    """
    walk = Walk(side, low, high)
    borders = [border for run in runs for border in run if border < high]
    for border in [*borders, high]:
        mark = walk.step()
        if border != mark:
            return min(border, mark)
    return None
