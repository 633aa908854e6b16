"""The turns of zones in the years, and the moves of zones (points 34 and 35)."""

from everydue.calendars import first_day, great_years, month_days, period_of, weekday_of


def turns_of_year(calendar, rows, year):
    """Returns a list of the turns of a year, pairs of a moment and an offset, in the order of their moments.

    The rows are possible ones.
    """
    lengths = month_days(calendar, year)
    begin = first_day(calendar, "year", year)
    found = []
    for month, place, weekday, minute, offset in rows:
        first = begin + sum(lengths[:month - 1])
        day = _day_at(calendar, first, lengths[month - 1], place, weekday)
        if day is not None:
            found.append((day * calendar[6] + minute, offset))
    return sorted(found)


def _day_at(calendar, first, length, place, weekday):
    """Returns the day with a place among the days of a month, or among those with a weekday; None if there is none."""
    step = 1
    if weekday is not None:
        step = calendar[4]
        ahead = (weekday - weekday_of(calendar, first)) % step
        first += ahead
        length -= ahead
    # Rounded up: so many days lie in the month, one step from one another.
    many = max(0, -(-length // step))
    index = place - 1 if place > 0 else many + place
    return first + index * step if 0 <= index < many else None


def possible_rows(calendar, rows):
    """Returns those rows of turns whose month and weekday a calendar has."""
    months, week = len(calendar[0]), calendar[4]
    return [row for row in rows if row[0] <= months and (row[2] is None or row[2] < week)]


def great_turns(calendar, turns, most):
    """Returns a list of all turns of a zone in its first great cycle of years; no more than just above most of them."""
    year, rows = turns
    rows = possible_rows(calendar, rows)
    found = []
    if not rows:
        return found
    for number in range(year, year + great_years(calendar)):
        found.extend(turns_of_year(calendar, rows, number))
        if len(found) > most:
            break
    return found


def last_turn(calendar, turns, moment):
    """Returns the last turn at or ahead of a moment, or None."""
    year, rows = turns
    rows = possible_rows(calendar, rows)
    if not rows:
        return None
    now = period_of(calendar, "year", moment // calendar[6])
    # What has not been in a great cycle of years never was.
    for number in range(now, max(now - great_years(calendar) - 1, year - 1), -1):
        found = [turn for turn in turns_of_year(calendar, rows, number) if turn[0] <= moment]
        if found:
            return found[-1]
    return None


def next_turn(calendar, turns, moment):
    """Returns the first turn behind a moment, or None."""
    year, rows = turns
    rows = possible_rows(calendar, rows)
    if not rows:
        return None
    now = max(year, period_of(calendar, "year", moment // calendar[6]))
    for number in range(now, now + great_years(calendar) + 1):
        found = [turn for turn in turns_of_year(calendar, rows, number) if turn[0] > moment]
        if found:
            return found[0]
    return None
