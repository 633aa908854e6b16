"""Daysets made of daysets, and the measure that tells which are too large to be joined (points 14 to 16)."""

from math import gcd, lcm

from everydue.borders import borders_between, many_borders, paired, runs_between
from everydue.daysets import EMPTY, holds, normal, pure
from everydue.errors import TooLarge
from everydue.sides import mirrored_side, runs_of_days, side_holds, side_of_rests
from everydue.tallies import Tally

# For each number of daysets that hold an integer: whether what they are joined to holds it.
IN_ANY = (False, True, True)
IN_BOTH = (False, False, True)
IN_ONE = (False, True, False)

_GREATEST_MEASURE = 40000
_GREATEST_PERIOD = 10 ** 12
_MOST_THINNED = 20000


def union(one, two):
    """Returns the dayset of what is in at least one of two daysets (point 15)."""
    return join_two(one, two, IN_ANY)


def meet(one, two):
    """Returns the dayset of what is in both of two daysets (point 15)."""
    return join_two(one, two, IN_BOTH)


def without(one, two):
    """Returns the dayset of what is in the first and not in the second of two daysets (point 15)."""
    return join_two(one, other(two), IN_BOTH)


def join_two(one, two, flags):
    """Returns the dayset of what is in so many of two daysets that the flag of this number is True."""
    rows = [normal(one), normal(two)]
    refuse_too_large(rows)
    return combined(rows, flags)


def other(dayset):
    """Returns the dayset of what is not in a dayset (point 15)."""
    left, low, runs, high, right = dayset
    marks = [low, *[mark for run in runs for mark in run], high]
    gaps = tuple([(begin, end) for begin, end in zip(marks[::2], marks[1::2]) if begin < end])
    return normal((_other_side(left), low, gaps, high, _other_side(right)))


def _other_side(side):
    """Returns the side of what is not in a side."""
    return (side[0], side[1], not side[2])


def moved(dayset, days):
    """Returns the dayset of those x for which x - days is in a dayset (point 15)."""
    left, low, runs, high, right = dayset
    runs = tuple([(begin + days, end + days) for begin, end in runs])
    return normal((_moved_side(left, days), low + days, runs, high + days, _moved_side(right, days)))


def _moved_side(side, days):
    """Returns the side of those x for which x - days is in a side."""
    period, borders, _ = side
    turned = sorted([(border + days) % period for border in borders])
    return (period, tuple(turned), side_holds(side, -1 - days))


def mirrored(dayset):
    """Returns the dayset of those x for which -x is in a dayset (point 15)."""
    left, low, runs, high, right = dayset
    turned = tuple([(1 - end, 1 - begin) for begin, end in runs[::-1]])
    return normal((mirrored_side(right), 1 - high, turned, 1 - low, mirrored_side(left)))


def thinned(dayset, begin, step, rest):
    """Returns the dayset of each step-th integer of a dayset from begin on (point 16)."""
    row = normal(dayset)
    tally = Tally(row)
    many = tally.right.many
    turns = step // gcd(many, step)
    period = row[4][0] * turns
    if many and (many * turns > _MOST_THINNED or period > _GREATEST_PERIOD):
        raise TooLarge("the right side would have too many integers")
    far = max(begin, row[3])
    if tally.below(far) - tally.below(begin) > _MOST_THINNED:
        raise TooLarge("there are too many integers ahead of the right side")
    # The new period holds a multiple of step of the integers, so what is taken repeats with it.
    runs = runs_between(row, begin, far + period if many else far)
    days = [day for one, two in runs for day in range(one, two)]
    taken = [day for index, day in enumerate(days) if index % step == rest]
    side = side_of_rests(period, [day % period for day in taken if day >= far])
    return normal((EMPTY[0], begin, tuple(runs_of_days([day for day in taken if day < far])), far, side))


def measure(daysets):
    """Returns the measure of a list of daysets (point 14)."""
    return _measure([normal(dayset) for dayset in daysets])


def is_too_large(daysets):
    """Returns whether a list of daysets is too large (point 14)."""
    return is_large([normal(dayset) for dayset in daysets])


def refuse_too_large(rows):
    """Raises TooLarge if a list of normal daysets is too large."""
    if is_large(rows):
        raise TooLarge("the daysets are too large to be joined")


def is_large(rows):
    """Returns whether a list of normal daysets is too large."""
    if _measure(rows) > _GREATEST_MEASURE:
        return True
    return max(_common_period([row[0] for row in rows]), _common_period([row[4] for row in rows])) > _GREATEST_PERIOD


def _measure(rows):
    """Returns the measure of a list of normal daysets."""
    total = _sides_measure([row[0] for row in rows]) + _sides_measure([row[4] for row in rows])
    mixed = [row for row in rows if not is_pure(row)]
    if mixed:
        low = min([row[1] for row in mixed])
        high = max([row[3] for row in mixed])
        total += sum([many_borders(row, low, high + 1) for row in rows])
    return total


def _sides_measure(sides):
    """Returns how many borders some sides have in the least period that is common to all."""
    period = _common_period(sides)
    return sum([period // side[0] * len(side[1]) for side in sides])


def _common_period(sides):
    """Returns the least common multiple of the periods of some sides."""
    period = 1
    for side in sides:
        period = lcm(period, side[0])
    return period


def is_pure(row):
    """Returns whether a normal dayset is pure (point 14)."""
    left, low, runs, high, right = row
    return low == 0 and high == 0 and not runs and left == right


def combined(rows, flags):
    """Returns the dayset of what is in so many of some normal daysets that the flag of this number is True."""
    left = _combined_sides([row[0] for row in rows], flags)
    mixed = [row for row in rows if not is_pure(row)]
    if not mixed:
        return normal(pure(left))
    right = _combined_sides([row[4] for row in rows], flags)
    low = min([row[1] for row in mixed])
    high = max([row[3] for row in mixed])
    return normal((left, low, tuple(_combined_runs(rows, low, high, flags)), high, right))


def _combined_sides(sides, flags):
    """Returns the side of what is in so many of some sides that the flag of this number is True."""
    period = _common_period(sides)
    changes = {}
    for own, borders, inside in sides:
        if borders:
            turned = [turn + border for turn in range(0, period, own) for border in borders]
            _count_changes(changes, turned, inside)
    many = len([side for side in sides if side[2]])
    return (period, tuple(_changing(changes, many, flags)), flags[many])


def _combined_runs(rows, low, high, flags):
    """Returns the runs from low to high - 1 of what is in so many daysets that the flag of this number is True."""
    if low == high:
        return []
    changes = {}
    many = 0
    for row in rows:
        inside = holds(row, low)
        many += 1 if inside else 0
        _count_changes(changes, borders_between(row, low + 1, high), inside)
    return paired(low, flags[many], _changing(changes, many, flags), high)


def _count_changes(changes, borders, inside):
    """Counts, at each border of a set, one more if the set begins there, and one less if it ends."""
    change = -1 if inside else 1
    for border in borders:
        changes[border] = changes.get(border, 0) + change
        change = -change


def _changing(changes, many, flags):
    """Returns a list of the marks at which the flag of the number of sets that hold an integer changes."""
    borders = []
    for mark in sorted(changes):
        flag = flags[many]
        many += changes[mark]
        if flags[many] != flag:
            borders.append(mark)
    return borders
