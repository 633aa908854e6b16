"""Calendars, and the days, dates, periods and weeks that they tell (points 1 to 8)."""

from math import lcm

from everydue.checks import is_flag, is_from_to, is_tuple, is_tuple_of
from everydue.errors import NoSuchDay

GREGORIAN = (
    (31, 28, 31, 30, 31, 30, 31, 31, 30, 31, 30, 31),
    2,
    1,
    ((4, True), (100, False), (400, True)),
    7,
    5,
    1440,
)

MOST_MONTHS = 24
LONGEST_MONTH = 60
MOST_EXTRA = 30
MOST_RULES = 6
GREATEST_DIVISOR = 1000
LONGEST_WEEK = 14
MOST_MINUTES = 2000
_MOST_GREAT_CYCLE = 400000


def calendar_fault(calendar):
    """Returns None, or the word for what is wrong with a calendar (point 4)."""
    months, longer, extra, rules, week, first, minutes = calendar
    if not _are_months(months):
        return "months"
    if not is_from_to(longer, 1, len(months)):
        return "longer"
    if not is_from_to(extra, 0, MOST_EXTRA):
        return "extra"
    if not _are_rules(rules):
        return "rules"
    if not is_from_to(week, 1, LONGEST_WEEK):
        return "week"
    if not is_from_to(first, 0, week - 1):
        return "first"
    if not is_from_to(minutes, 1, MOST_MINUTES):
        return "minutes"
    if cycle_of(calendar)[1] > _MOST_GREAT_CYCLE:
        return "cycle"
    return None


def _are_months(months):
    """Whether a value is the months of a calendar."""
    if not is_tuple(months) or not 1 <= len(months) <= MOST_MONTHS:
        return False
    return all([is_from_to(days, 1, LONGEST_MONTH) for days in months])


def _are_rules(rules):
    """Whether a value is the rules of a calendar."""
    if not is_tuple(rules) or len(rules) > MOST_RULES:
        return False
    return all([_is_rule(rule) for rule in rules])


def _is_rule(rule):
    """Whether a value is one rule of a calendar."""
    return is_tuple_of(rule, 2) and is_from_to(rule[0], 1, GREATEST_DIVISOR) and is_flag(rule[1])


def is_long(calendar, year):
    """Returns whether a year is long (point 2)."""
    long = False
    for divisor, yes in calendar[3]:
        if year % divisor == 0:
            long = yes
    return long


def cycle_of(calendar):
    """Returns the years of the cycle and the days of the great cycle (point 3)."""
    years = _cycle_years(calendar)
    return years, lcm(_year_begin(_shape_of(calendar), years), calendar[4])


def _cycle_years(calendar):
    """Returns the number of years of the cycle."""
    years = 1
    for divisor, _ in calendar[3]:
        years = lcm(years, divisor)
    return years


def _shape_of(calendar):
    """Returns what tells where years begin: the days of a short year, the extra ones of a long one, the long terms."""
    return sum(calendar[0]), calendar[2], _long_terms(calendar[3])


def _long_terms(rules):
    """Returns pairs (divisor, times): a year is long if the times of all that divide it have the sum 1, not 0.

    So long years are counted without looking at each year: a cycle may have very many of them.
    """
    terms = {}
    for divisor, yes in rules:
        # A rule takes back, for the years that it speaks of, what all rules ahead of it said.
        said = list(terms.items())
        for other, times in said:
            common = lcm(other, divisor)
            terms[common] = terms.get(common, 0) - times
        if yes:
            terms[divisor] = terms.get(divisor, 0) + 1
    return list(terms.items())


def _year_begin(shape, year):
    """Returns the first day of a year."""
    days, extra, terms = shape
    # Rounded up, the quotient counts the multiples from 0 to year - 1; below year 0 it counts them with a minus.
    longs = sum([times * -(-year // divisor) for divisor, times in terms])
    return days * year + extra * longs


def _year_of(calendar, day):
    """Returns the year in which a day lies."""
    shape = _shape_of(calendar)
    years = _cycle_years(calendar)
    cycles, rest = divmod(day, _year_begin(shape, years))
    # Each year has at least the days of a short one, and at most those of a long one.
    low, high = rest // (shape[0] + shape[1]), rest // shape[0] + 1
    while high - low > 1:
        middle = (low + high) // 2
        if _year_begin(shape, middle) <= rest:
            low = middle
        else:
            high = middle
    return cycles * years + low


def great_years(calendar):
    """Returns the number of years of the great cycle (point 3)."""
    years, days = cycle_of(calendar)
    return days // _year_begin(_shape_of(calendar), years) * years


def month_days(calendar, year):
    """Returns a list of the numbers of days of the months of a year."""
    days = list(calendar[0])
    if is_long(calendar, year):
        days[calendar[1] - 1] += calendar[2]
    return days


def day_of(calendar, year, month, number):
    """Returns the day with a date (point 5); raises NoSuchDay if there is none."""
    days = month_days(calendar, year)
    if not 1 <= month <= len(days) or not 1 <= number <= days[month - 1]:
        raise NoSuchDay("there is no day with this date")
    return _year_begin(_shape_of(calendar), year) + sum(days[:month - 1]) + number - 1


def date_of(calendar, day):
    """Returns the date of a day: a tuple of its year, month and number (point 5)."""
    year = _year_of(calendar, day)
    rest = day - _year_begin(_shape_of(calendar), year)
    month = 1
    for days in month_days(calendar, year):
        if rest < days:
            break
        rest -= days
        month += 1
    return year, month, rest + 1


def weekday_of(calendar, day):
    """Returns the weekday of a day (point 5)."""
    return (day + calendar[5]) % calendar[4]


def period_of(calendar, unit, day):
    """Returns the number of the period of a unit in which a day lies (point 6)."""
    if unit == "day":
        return day
    if unit == "week":
        return (day + calendar[5]) // calendar[4]
    if unit == "year":
        return _year_of(calendar, day)
    year, month, _ = date_of(calendar, day)
    return year * len(calendar[0]) + month - 1


def first_day(calendar, unit, period):
    """Returns the first day of a period of a unit (point 6)."""
    if unit == "day":
        return period
    if unit == "week":
        return period * calendar[4] - calendar[5]
    if unit == "year":
        return _year_begin(_shape_of(calendar), period)
    year, month = divmod(period, len(calendar[0]))
    return day_of(calendar, year, month + 1, 1)


def places_of(calendar, unit, day):
    """Returns the places of a day in its period of a unit, from the first and from the last day (point 7)."""
    period = period_of(calendar, unit, day)
    return day - first_day(calendar, unit, period) + 1, day - first_day(calendar, unit, period + 1)


def week_of(calendar, day):
    """Returns the year to which the week of a day belongs, and its places among that year's weeks (point 8)."""
    return places_of_week(calendar, period_of(calendar, "week", day), _year_of(calendar, day))


def places_of_week(calendar, week, near):
    """Returns what week_of tells of the days of a week, some of which lie in the year near."""
    year = _year_of_week(calendar, week, near)
    first, last = weeks_of(calendar, year)
    return year, week - first + 1, week - last - 1


def weeks_of(calendar, year):
    """Returns the first and the last week that belong to a year; last is less than first if there is none (point 8)."""
    shape = _shape_of(calendar)
    begin, end = _year_begin(shape, year), _year_begin(shape, year + 1)
    first = period_of(calendar, "week", begin)
    last = period_of(calendar, "week", end - 1)
    # Weeks inside of a year belong to it, so only the two at its ends may belong to other years.
    if _year_of_week(calendar, first, year) != year:
        first += 1
    if last >= first and _year_of_week(calendar, last, year) != year:
        last -= 1
    return first, last


def _year_of_week(calendar, week, near):
    """Returns the year to which a week belongs, some days of which lie in the year near."""
    begin = first_day(calendar, "week", week)
    end = begin + calendar[4]
    shape = _shape_of(calendar)
    year = near
    while _year_begin(shape, year) > begin:
        year -= 1
    owner, most = year, 0
    while begin < end:
        behind = min(end, _year_begin(shape, year + 1))
        if behind - begin >= most:
            owner, most = year, behind - begin
        begin = behind
        year += 1
    return owner
