"""The days of a rule that count, and the pattern in which they repeat (points 22 and 24)."""

from math import gcd

from everydue.calendars import cycle_of, first_day, period_of
from everydue.fits import Fits


def counting_between(calendar, rule, begin, end):
    """Returns an ascending list of the days from begin to end - 1 that count."""
    if begin >= end:
        return []
    unit, interval, anchor = rule[:3]
    root = period_of(calendar, unit, anchor)
    rows = _counting_periods(calendar, rule, begin, end)
    days = [day for period, row in rows if (period - root) % interval == 0 for day in row]
    return [day for day in days if begin <= day < end]


def _counting_periods(calendar, rule, begin, end):
    """Returns a list of pairs of a period and its days that count, if the interval does not leave the period out.

    The periods are all those in which the days from begin to end - 1 lie, as far as they have such days.
    """
    unit, _, _, lists, places = rule[:5]
    first = end_of_period = first_day(calendar, unit, period_of(calendar, unit, begin))
    behind = first_day(calendar, unit, period_of(calendar, unit, end - 1) + 1)
    rows = []
    for day in Fits(calendar, lists).days_between(first, behind):
        if day >= end_of_period:
            period = period_of(calendar, unit, day)
            end_of_period = first_day(calendar, unit, period + 1)
            rows.append((period, []))
        rows[-1][1].append(day)
    if not places:
        return rows
    return [(period, _at_places(row, places)) for period, row in rows]


def _at_places(row, places):
    """Returns those members of a row that have one of some places in it."""
    many = len(row)
    return [day for index, day in enumerate(row) if index + 1 in places or index - many in places]


def pattern_of(calendar, rule):
    """Returns the pattern of what counts: a period, and an ascending list of the remainders of the days that count."""
    unit, interval, anchor = rule[:3]
    days = cycle_of(calendar)[1]
    # The great cycle has so many periods of the unit; the pattern has so many great cycles.
    many = period_of(calendar, unit, first_day(calendar, unit, 0) + days)
    common = gcd(many, interval)
    turns = interval // common
    begin = first_day(calendar, unit, 0)
    root = period_of(calendar, unit, anchor)
    inverse = _inverse(many // common, turns)
    rests = []
    for period, row in _counting_periods(calendar, rule, begin, begin + days):
        # Of the great cycles, just one in each pattern has this period in a step of the interval from the anchor.
        steps, rest = divmod(root - period, common)
        if rest == 0:
            moved = steps * inverse % turns * days
            rests.extend([(day + moved) % (days * turns) for day in row])
    return days * turns, sorted(rests)


def _inverse(number, divisor):
    """Returns the inverse of a number for a divisor with which it has no common one."""
    one, two = number % divisor, divisor
    factor, ahead = 1, 0
    while two:
        quotient = one // two
        one, two = two, one - quotient * two
        factor, ahead = ahead, factor - quotient * ahead
    return factor % divisor
