"""Daysets: sets of integers with a side to the left, runs, and a side to the right (points 9 to 12)."""

from everydue.checks import is_tuple, is_tuple_of, is_whole
from everydue.sides import MOST_BORDERS, count_below, first_apart, first_apart_from_runs
from everydue.sides import is_side, least_side, mirrored_side, runs_of_days, side_holds, side_of_rests

EMPTY = ((1, (), False), 0, (), 0, (1, (), False))
ALL = ((1, (), True), 0, (), 0, (1, (), True))


def dayset_fault(dayset):
    """Returns None, or the word for what is wrong with a dayset (point 12)."""
    left, low, runs, high, right = dayset
    if not is_side(left):
        return "left"
    if not is_whole(low):
        return "low"
    if not _are_runs(runs, low):
        return "runs"
    end = runs[-1][1] if runs else low
    if not is_whole(high) or high < end:
        return "high"
    if not is_side(right):
        return "right"
    return None


def _are_runs(runs, low):
    """Returns whether a value is a tuple of runs from low on, within the bounds of point 12."""
    if not is_tuple(runs) or len(runs) > MOST_BORDERS:
        return False
    least = low
    for run in runs:
        if not is_tuple_of(run, 2):
            return False
        begin, end = run
        if not is_whole(begin) or not is_whole(end) or not least <= begin < end:
            return False
        least = end + 1
    return True


def normal(dayset):
    """Returns the normal dayset with the same integers in it (point 11)."""
    left, low, runs, high, right = dayset
    left = least_side(left)
    right = least_side(right)
    begin = first_apart_from_runs(left, runs, low, high)
    if begin is None:
        begin = first_apart(left, right, high)
        if begin is None:
            return (left, 0, (), 0, left)
        return (left, begin, (), begin, right)
    end = _right_begins(right, _cut(runs, begin, high), begin, high)
    return (left, begin, _cut(runs, begin, end), end, right)


def _cut(runs, begin, end):
    """Returns what of the runs lies from begin to end - 1."""
    cut = [(max(one, begin), min(two, end)) for one, two in runs]
    return tuple([(one, two) for one, two in cut if one < two])


def _right_begins(right, runs, begin, high):
    """Returns the least integer from begin to high from which on the runs hold just what the right side holds."""
    turned = [(1 - two, 1 - one) for one, two in runs[::-1]]
    last = first_apart_from_runs(mirrored_side(right), turned, 1 - high, 1 - begin)
    return begin if last is None else 1 - last


def single(days):
    """Returns the normal dayset of a list of integers."""
    runs = tuple(runs_of_days(sorted(set(days))))
    if not runs:
        return EMPTY
    nothing = EMPTY[0]
    return (nothing, runs[0][0], runs, runs[-1][1], nothing)


def periodic(period, rests):
    """Returns the normal dayset of all integers with the remainders, divided by the period, of those in a list."""
    return pure(side_of_rests(period, [rest % period for rest in rests]))


def pure(side):
    """Returns the normal dayset of all integers in a least side."""
    return (side, 0, (), 0, side)


def holds(dayset, day):
    """Returns whether a day is in a dayset (point 17)."""
    left, low, runs, high, right = dayset
    if day < low:
        return side_holds(left, day)
    if day >= high:
        return side_holds(right, day)
    # A pair is less than (day + 1,) just if it begins at day or ahead of it.
    begun = count_below(runs, (day + 1,))
    return begun > 0 and day < runs[begun - 1][1]
