"""Minutesets: sets of moments, told by the minutes of a day (points 40 to 46)."""

from math import gcd

from everydue.checks import is_tuple, is_tuple_of, is_whole
from everydue.dayparts import join_minutes, merged, normal_pairs, parts_of
from everydue.daysets import dayset_fault, holds
from everydue.joins import IN_ANY, IN_BOTH, IN_ONE, moved, other
from everydue.momenttallies import MomentTally
from everydue.questions import last_in, nearer, next_in
from everydue.tallies import SideTally
from everydue.widening import interval, widen

NEVER = ((0, ((1, (), False), 0, (), 0, (1, (), False))),)
ALWAYS = ((0, ((1, (), True), 0, (), 0, (1, (), True))),)


def minuteset_fault(calendar, minuteset):
    """Returns None, or the word for what is wrong with a minuteset (interface)."""
    if not is_tuple(minuteset) or not minuteset:
        return "pairs"
    if not all([is_tuple_of(pair, 2) and is_tuple_of(pair[1], 5) for pair in minuteset]):
        return "pairs"
    least = 0
    for minute, _ in minuteset:
        if not is_whole(minute) or not least <= minute < calendar[6]:
            return "minutes"
        least = minute + 1
    if minuteset[0][0] != 0:
        return "minutes"
    if not all([dayset_fault(dayset) is None for _, dayset in minuteset]):
        return "daysets"
    return None


def normal_minutes(calendar, minuteset):
    """Returns the normal minuteset with the same moments (point 40)."""
    return normal_pairs(minuteset)


def moments_between(calendar, first, last):
    """Returns the minuteset of all moments from first to last, both counted; None is no bound."""
    minutes = calendar[6]
    marks = [0]
    if first is not None:
        marks.append(first % minutes)
    if last is not None:
        marks.append((last + 1) % minutes)
    pairs = []
    for minute in sorted(set(marks)):
        begin = None if first is None else -((minute - first) // minutes)
        end = None if last is None else (last - minute) // minutes
        pairs.append((minute, interval(begin, end)))
    return merged(pairs)


def moments_union(calendar, one, two):
    """Returns the minuteset of the moments in at least one of two (point 42)."""
    return join_minutes([one, two], IN_ANY)


def moments_meet(calendar, one, two):
    """Returns the minuteset of the moments in both of two (point 42)."""
    return join_minutes([one, two], IN_BOTH)


def moments_without(calendar, one, two):
    """Returns the minuteset of the moments in the first and not in the second of two (point 42)."""
    return join_minutes([one, moments_other(calendar, two)], IN_BOTH)


def moments_least(calendar, number, minutesets):
    """Returns the minuteset of the moments in at least so many of a list of minutesets (point 42)."""
    return join_minutes(minutesets, [many >= number for many in range(len(minutesets) + 1)])


def moments_other(calendar, minuteset):
    """Returns the minuteset of the moments that are not in a minuteset (point 42)."""
    return merged([(minute, other(dayset)) for minute, dayset in minuteset])


def moments_moved(calendar, minuteset, moment):
    """Returns the minuteset of those x for which x - moment is in a minuteset (point 42)."""
    days, late = divmod(moment, calendar[6])
    # What is moved over the end of a day comes one day later, and stands at the beginning of the pairs.
    ahead, behind = [], []
    for begin, end, dayset in parts_of(calendar, minuteset):
        if begin + late < calendar[6]:
            behind.append((begin + late, moved(dayset, days)))
        if end + late > calendar[6]:
            ahead.append((max(begin + late - calendar[6], 0), moved(dayset, days + 1)))
    return merged([*ahead, *behind])


def widened(calendar, minuteset, back, on):
    """Returns the minuteset of the moments that have one of a minuteset from on ahead to back behind (point 43)."""
    return widen(calendar, normal_pairs(minuteset), back, on)


def room(calendar, minuteset, length):
    """Returns the minuteset of the moments from which on so many moments are in a minuteset (point 45)."""
    busy = widen(calendar, moments_other(calendar, minuteset), length - 1, 0)
    return moments_other(calendar, busy)


def moment_holds(calendar, minuteset, moment):
    """Returns whether a moment is in a minuteset (point 44)."""
    day, minute = divmod(moment, calendar[6])
    found = [dayset for begin, end, dayset in parts_of(calendar, minuteset) if begin <= minute < end]
    return holds(found[0], day)


def moment_next(calendar, minuteset, moment):
    """Returns the least moment of a minuteset from a moment on, or None (point 44)."""
    today, now = divmod(moment, calendar[6])
    best = None
    for begin, end, dayset in parts_of(calendar, minuteset):
        day = next_in(dayset, today if now < end else today + 1)
        if day is not None:
            found = day * calendar[6] + (max(begin, now) if day == today else begin)
            best = found if best is None else min(best, found)
    return best


def moment_last(calendar, minuteset, moment):
    """Returns the greatest moment of a minuteset up to a moment, or None (point 44)."""
    today, now = divmod(moment, calendar[6])
    best = None
    for begin, end, dayset in parts_of(calendar, minuteset):
        day = last_in(dayset, today if now >= begin else today - 1)
        if day is not None:
            found = day * calendar[6] + (min(end - 1, now) if day == today else end - 1)
            best = found if best is None else max(best, found)
    return best


def moment_count(calendar, minuteset, first, end):
    """Returns how many moments of a minuteset lie from first to end - 1 (point 44)."""
    if end <= first:
        return 0
    tally = MomentTally(calendar, minuteset)
    return tally.below(end) - tally.below(first)


def moment_nth(calendar, minuteset, moment, number):
    """Returns the moment of a minuteset with a number, counted from 1 from a moment on, or None (point 44)."""
    return MomentTally(calendar, minuteset).nth_from(moment, number)


def moment_nearest(calendar, minuteset, moment):
    """Returns the moment of a minuteset that is nearest to a moment, the later one of two; None if there is none."""
    before = moment_last(calendar, minuteset, moment)
    return nearer(before, moment_next(calendar, minuteset, moment), moment)


def moments_first_difference(calendar, one, two, moment):
    """Returns the moment nearest to a moment that is in just one of two minutesets, or None (point 44)."""
    return moment_nearest(calendar, join_minutes([one, two], IN_ONE), moment)


def moments_in(calendar, one, two):
    """Returns whether all moments of one minuteset are in another one (point 44)."""
    return moments_without(calendar, one, two) == NEVER


def moments_meet_ever(calendar, one, two):
    """Returns whether there is a moment in both of two minutesets (point 44)."""
    return moments_meet(calendar, one, two) != NEVER


def share(calendar, minuteset):
    """Returns the parts of all moments of the far past and of the far future that are in (point 44)."""
    return _share_of_side(calendar, minuteset, 0), _share_of_side(calendar, minuteset, 4)


def _share_of_side(calendar, minuteset, member):
    """Returns the part of all moments that is in the sides, which are this member of the daysets, of a minuteset."""
    over, under = 0, 1
    for begin, end, dayset in parts_of(calendar, minuteset):
        tally = SideTally(dayset[member])
        over = over * tally.period + (end - begin) * tally.many * under
        under *= tally.period
        common = gcd(over, under)
        over, under = over // common, under // common
    under *= calendar[6]
    common = gcd(over, under)
    return over // common, under // common


def apart(calendar, one, two, minutes, moment):
    """Returns None, or the nearest moments of two minutesets that differ by less than so many minutes (point 46)."""
    near = moments_meet(calendar, one, widened(calendar, two, minutes - 1, minutes - 1))
    first = moment_nearest(calendar, near, moment)
    if first is None:
        return None
    return first, moment_nearest(calendar, two, first)
