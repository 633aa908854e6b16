"""Daysets rolled on to others, first days, and days at places (points 27 to 30)."""

from math import lcm

from everydue.borders import runs_between
from everydue.calendars import cycle_of, first_day, period_of
from everydue.dayparts import any_of
from everydue.daysets import ALL, EMPTY, normal, pure
from everydue.errors import TooLarge
from everydue.joins import IN_BOTH, combined, is_pure, refuse_too_large
from everydue.questions import last_in, next_in
from everydue.sides import runs_of_days, side_of_rests
from everydue.tallies import SideTally, Tally

_MOST_PERIODS = 40000
_GREATEST_PERIOD = 10 ** 12


def rolled(one, two, way):
    """Returns the dayset of the days of two to which those of one are rolled in one of three ways (point 27)."""
    source, target = normal(one), normal(two)
    refuse_too_large([source, target])
    # A day of both stays where it is; all others lie in the gaps of the second dayset, and go to their ends.
    return any_of([combined([source, target], IN_BOTH), _gap_ends(source, target, way)])


def _gap_ends(source, target, way):
    """Returns the dayset of the ends of the gaps of target to which days of source go that lie in the gaps."""
    left = _gap_ends_of_side(source[0], target[0], way)
    right = _gap_ends_of_side(source[4], target[4], way)
    mixed = [row for row in (source, target) if not is_pure(row)]
    low = min([row[1] for row in mixed]) if mixed else 0
    high = max([row[3] for row in mixed]) if mixed else 0
    # Ahead of the last day of target below low, and behind the first one from high on, all gaps lie in the sides.
    first, last = last_in(target, low - 1), next_in(target, high)
    begin = low if first is None else last_in(target, first - 1)
    end = high if last is None else next_in(target, last + 1) + 1
    runs = runs_between(target, begin, end)
    gaps = [(one[1], two[0]) for one, two in zip(runs, runs[1:])]
    if first is None and runs:
        gaps.append((None, runs[0][0]))
    if last is None and runs:
        gaps.append((runs[-1][1], None))
    low = low if first is None else first
    high = high if last is None else last + 1
    ends = [day for gap in gaps for day in _ends_of_gap(source, gap, way) if low <= day < high]
    return normal((left, low, tuple(runs_of_days(sorted(set(ends)))), high, right))


def _gap_ends_of_side(source, target, way):
    """Returns the side of what _gap_ends tells of pure daysets with these sides."""
    period, borders, _ = target
    if not borders:
        return EMPTY[0]
    period = lcm(period, source[0])
    first = next_in(pure(target), 0)
    runs = runs_between(pure(target), first, first + period + 1)
    gaps = [(one[1], two[0]) for one, two in zip(runs, runs[1:])]
    ends = [day for gap in gaps for day in _ends_of_gap(pure(source), gap, way)]
    return side_of_rests(period, [day % period for day in ends])


def _ends_of_gap(source, gap, way):
    """Returns a list of the ends of a gap, of which one may be None, to which days of source go that lie in it."""
    begin, end = gap
    if begin is None:
        return [end] if way != "back" and last_in(source, end - 1) is not None else []
    if end is None:
        return [begin - 1] if way != "on" and next_in(source, begin) is not None else []
    if way == "on":
        middle = begin
    elif way == "back":
        middle = end
    else:
        # From here on the later end is nearer, or just as near.
        middle = (begin + end) // 2
    ends = [begin - 1] if _meets(source, begin, middle) else []
    if _meets(source, middle, end):
        ends.append(end)
    return ends


def _meets(source, begin, end):
    """Returns whether a dayset holds a day from begin to end - 1."""
    day = next_in(source, begin)
    return day is not None and day < end


def first_days(calendar, unit):
    """Returns the dayset of the first days of all periods of a unit."""
    return placed(calendar, ALL, unit, (1,))


def placed(calendar, dayset, unit, places):
    """Returns the dayset of the days that have one of some places among those of a dayset in a period (point 28)."""
    row = normal(dayset)
    if unit == "day":
        return row if 1 in places or -1 in places else EMPTY
    _refuse_periods(calendar, row, unit)
    left = _placed_side(calendar, row[0], unit, places)
    if is_pure(row):
        return pure(left)
    first = period_of(calendar, unit, row[1])
    begins = [first_day(calendar, unit, period) for period in range(first, period_of(calendar, unit, row[3]) + 2)]
    days = _days_at_places(Tally(row), begins, places)
    right = _placed_side(calendar, row[4], unit, places)
    return normal((left, begins[0], tuple(runs_of_days(days)), begins[-1], right))


def _refuse_periods(calendar, row, unit):
    """Raises TooLarge if too many periods of a unit are to be looked at (point 29)."""
    for side in (row[0], row[4]):
        period, many = _common_period(calendar, side, unit)
        if many > _MOST_PERIODS or period > _GREATEST_PERIOD:
            raise TooLarge("there are too many periods in what repeats")
    if not is_pure(row):
        many = period_of(calendar, unit, row[3]) - period_of(calendar, unit, row[1]) + 1
        if many > _MOST_PERIODS:
            raise TooLarge("there are too many periods between the sides")


def _common_period(calendar, side, unit):
    """Returns the period that is common to a side and to a unit, and how many periods of the unit are in it."""
    cycle = calendar[4] if unit == "week" else cycle_of(calendar)[1]
    period = lcm(side[0], cycle)
    begin = first_day(calendar, unit, 0)
    return period, period_of(calendar, unit, begin + cycle) * (period // cycle)


def _placed_side(calendar, side, unit, places):
    """Returns the side of what placed tells of a pure dayset with this side."""
    tally = SideTally(side)
    if tally.many == 0:
        return side
    period, many = _common_period(calendar, side, unit)
    begins = [first_day(calendar, unit, number) for number in range(many + 1)]
    return side_of_rests(period, [day % period for day in _days_at_places(tally, begins, places)])


def _days_at_places(tally, begins, places):
    """Returns an ascending list of the days that have one of some places among those from one begin to the next one."""
    numbers = [tally.below(begin) for begin in begins]
    found = {}
    for first, end in zip(numbers, numbers[1:]):
        for place in places:
            number = first + place - 1 if place > 0 else end + place
            if first <= number < end:
                found[number] = True
    return [tally.at(number) for number in sorted(found)]
