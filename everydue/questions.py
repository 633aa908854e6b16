"""Questions about daysets (points 17 to 19)."""

from everydue.borders import runs_between
from everydue.daysets import EMPTY, normal
from everydue.joins import IN_ONE, join_two, meet, without
from everydue.sides import count_below, side_holds
from everydue.tallies import Tally


def next_in(dayset, day):
    """Returns the least integer of a dayset from a day on, or None (point 17)."""
    left, low, runs, high, right = dayset
    if day < low:
        found = _next_in_side(left, day)
        if found is not None and found < low:
            return found
    begin = max(day, low)
    if begin < high:
        # A run that begins ahead of begin may still hold it.
        place = count_below(runs, (begin,))
        if place > 0 and begin < runs[place - 1][1]:
            return begin
        if place < len(runs):
            return runs[place][0]
    return _next_in_side(right, max(day, high))


def last_in(dayset, day):
    """Returns the greatest integer of a dayset up to a day, or None (point 17)."""
    left, low, runs, high, right = dayset
    if day >= high:
        found = _last_in_side(right, day)
        if found is not None and found >= high:
            return found
    last = min(day, high - 1)
    if last >= low:
        place = count_below(runs, (last + 1,))
        if place > 0:
            return min(last, runs[place - 1][1] - 1)
    return _last_in_side(left, min(day, low - 1))


def _next_in_side(side, day):
    """Returns the least integer of a side from a day on, or None."""
    if side_holds(side, day):
        return day
    period, borders, _ = side
    if not borders:
        return None
    rest = day % period
    place = count_below(borders, rest + 1)
    if place < len(borders):
        return day - rest + borders[place]
    return day - rest + period + borders[0]


def _last_in_side(side, day):
    """Returns the greatest integer of a side up to a day, or None."""
    if side_holds(side, day):
        return day
    period, borders, _ = side
    if not borders:
        return None
    rest = day % period
    place = count_below(borders, rest + 1)
    if place > 0:
        return day - rest + borders[place - 1] - 1
    return day - rest - period + borders[-1] - 1


def nearest_in(dayset, day):
    """Returns the integer of a dayset that is nearest to a day, the greater one of two; None if there is none."""
    return nearer(last_in(dayset, day), next_in(dayset, day), day)


def nearer(before, behind, mark):
    """Returns which of two integers, each perhaps None, is nearer to a mark; the second one if both are as near."""
    if before is None or behind is None:
        return behind if before is None else before
    return before if mark - before < behind - mark else behind


def count_in(dayset, first, end):
    """Returns how many integers of a dayset lie from first to end - 1 (point 17)."""
    if end <= first:
        return 0
    tally = Tally(dayset)
    return tally.below(end) - tally.below(first)


def nth_from(dayset, day, number):
    """Returns the integer of a dayset with a number, counted from 1 from a day on, or None (point 17)."""
    tally = Tally(dayset)
    return tally.at(tally.below(day) + number - 1)


def first_difference(one, two, day):
    """Returns the integer nearest to a day that is in just one of two daysets, or None (point 18)."""
    return nearest_in(join_two(one, two, IN_ONE), day)


def is_in(one, two):
    """Returns whether all integers of one dayset are in another one (point 18)."""
    return without(one, two) == EMPTY


def meets(one, two):
    """Returns whether there is an integer in both of two daysets (point 18)."""
    return meet(one, two) != EMPTY


def least_gap(dayset):
    """Returns the least difference of two different integers of a dayset, or None (point 19)."""
    steps = _steps(dayset)
    return min(steps) if steps else None


def longest_break(dayset):
    """Returns how many integers at most lie between two neighbours of a dayset, or None (point 19)."""
    steps = _steps(dayset)
    return max(steps) - 1 if steps else None


def _steps(dayset):
    """Returns a list of all differences of neighbours that a dayset has."""
    left, low, _, high, right = normal(dayset)
    # Two periods of a side show each of its runs, and each of its gaps, whole.
    runs = runs_between(dayset, low - 2 * left[0] - 1, high + 2 * right[0] + 1)
    steps = [1 for begin, end in runs if end - begin > 1]
    steps.extend([two[0] - one[1] + 1 for one, two in zip(runs, runs[1:])])
    return steps
