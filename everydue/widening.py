"""Daysets and minutesets with all that lies near to what is in them (point 43)."""

from everydue.borders import runs_between
from everydue.dayparts import any_of, daysets_of, merged, parts_of, refuse_many_pairs
from everydue.daysets import ALL, EMPTY, normal, pure
from everydue.errors import TooLarge
from everydue.joins import measure, refuse_too_large
from everydue.sides import side_of_runs

_MOST_DAYS = 20
_GREATEST_MEASURE = 40000


def interval(first, last):
    """Returns the dayset of all integers from first to last, both counted; None is no bound."""
    nothing, each = EMPTY[0], ALL[0]
    if first is None and last is None:
        return ALL
    if first is None:
        return (each, last + 1, (), last + 1, nothing)
    if last is None:
        return (nothing, first, (), first, each)
    if first > last:
        return EMPTY
    return (nothing, first, ((first, last + 1),), last + 1, nothing)


def stretched(row, back, on):
    """Returns the dayset of the days for which a normal dayset holds a day from on ahead to back behind.

    Each of back and on may be less than 0, but not both together.
    """
    left, low, _, high, right = row
    begin, end = low - back, high + on
    runs = _stretched_runs(runs_between(row, begin - on, end + back), back, on, begin, end)
    return normal((_stretched_side(left, back, on), begin, tuple(runs), end, _stretched_side(right, back, on)))


def _stretched_side(side, back, on):
    """Returns the side of the integers for which a side holds one from on ahead to back behind."""
    period, borders, _ = side
    if not borders:
        return side
    runs = runs_between(pure(side), -on, period + back)
    return side_of_runs(period, _stretched_runs(runs, back, on, 0, period))


def _stretched_runs(runs, back, on, begin, end):
    """Returns a list of some runs, each begun earlier and ended later, from begin to end - 1."""
    rows = []
    for one, two in runs:
        first, last = max(one - back, begin), min(two + on, end)
        if rows and first <= rows[-1][1]:
            rows[-1] = (rows[-1][0], max(rows[-1][1], last))
        elif first < last:
            rows.append((first, last))
    return rows


def widen(calendar, rows, back, on):
    """Returns the normal minuteset of the moments that have one of a normal one from on ahead to back behind.

    Raises TooLarge as point 43 says.
    """
    if back + on > _MOST_DAYS * calendar[6]:
        raise TooLarge("the moments would be widened by too much")
    daysets = daysets_of([rows])
    refuse_too_large(daysets)
    if measure(daysets) * (2 + (back + on) // calendar[6]) > _GREATEST_MEASURE:
        raise TooLarge("there would be too many borders")
    widening = Widening(calendar, rows)
    marks = [0]
    for begin, end, _ in parts_of(calendar, rows):
        marks.append((begin - back) % calendar[6])
        marks.append((end + on) % calendar[6])
    told = merged([(mark, widening.days_at(mark - on, mark + back)) for mark in sorted(set(marks))])
    refuse_many_pairs(told)
    return told


class Widening:
    """The parts of a minuteset, and their days, stretched, as far as they were asked for."""

    def __init__(self, calendar, rows):
        self.minutes = calendar[6]
        self.parts = [part for part in parts_of(calendar, rows) if part[2] != EMPTY]
        self.numbers = {dayset: index for index, (_, _, dayset) in enumerate(self.parts)}
        self.known = {}

    def days_at(self, first, last):
        """Returns the dayset of the days in which a part is in from the minute first to the minute last of the day."""
        rows = {}
        for begin, end, dayset in self.parts:
            # The part lies there in the days from earliest to latest, counted from the day itself.
            earliest = -((end - 1 - first) // self.minutes)
            latest = (last - begin) // self.minutes
            if earliest <= latest:
                key = (self.numbers[dayset], earliest, latest)
                rows[key] = self._stretched(key)
        return any_of(list(rows.values()))

    def _stretched(self, key):
        """Returns the dayset of the days that see one of a part's dayset from earliest to latest."""
        if key not in self.known:
            number, earliest, latest = key
            self.known[key] = stretched(self.parts[number][2], latest, -earliest)
        return self.known[key]
