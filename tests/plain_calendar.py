"""The plain meaning of points 2 to 8, day by day, to compare the program with."""

from math import gcd

from everydue.calendars import GREGORIAN

UNITS = ("day", "week", "month", "year")

# Little calendars: short months and weeks, long months only in long years, rules that take each other back.
LITTLE = [
    ((1,), 1, 0, (), 1, 0, 1),
    ((1,), 1, 0, (), 14, 13, 2000),
    ((1,), 1, 1, ((2, True),), 2, 1, 5),
    ((1, 1, 1), 2, 30, ((3, True),), 7, 2, 60),
    ((5,), 1, 3, ((2, True), (3, False)), 4, 1, 10),
    ((1, 2), 2, 1, ((4, True), (6, False), (9, True)), 5, 4, 3),
    ((2, 3, 1), 3, 0, ((1, True), (2, False)), 6, 0, 7),
    ((2, 1), 1, 4, ((1, True), (5, False)), 8, 3, 24),
    ((3, 4), 2, 2, ((2, True), (2, False), (7, True)), 3, 2, 9),
    ((2,), 1, 1, ((2, False), (3, True), (4, False), (5, True), (6, False), (10, True)), 9, 5, 1),
    ((1,) * 24, 24, 30, ((1, True), (6, False)), 13, 12, 1440),
    ((30,) * 12 + (5,), 13, 1, ((4, True), (100, False)), 10, 9, 1000),
    ((60, 1, 60), 1, 30, ((9, False), (6, True)), 12, 11, 2),
]

ALL_CALENDARS = [*LITTLE, GREGORIAN]


def plain_long(calendar, year):
    told = [yes for n, yes in calendar[3] if year % n == 0]
    return told[-1] if told else False


def plain_months(calendar, year):
    months, longer, extra = calendar[:3]
    many = plain_long(calendar, year)
    return [days + (extra if many and k + 1 == longer else 0) for k, days in enumerate(months)]


def plain_year(calendar, year):
    """The dates of all days of a year."""
    return [
        (year, month + 1, number + 1)
        for month, days in enumerate(plain_months(calendar, year))
        for number in range(days)
    ]


def plain_dates(calendar, most):
    """A dict of the dates of all days of whole years, at least of those from -most to most."""
    dates = {}
    day, year = 0, 0
    while day <= most:
        for date in plain_year(calendar, year):
            dates[day] = date
            day += 1
        year += 1
    day, year = 0, -1
    while day >= -most:
        for date in reversed(plain_year(calendar, year)):
            day -= 1
            dates[day] = date
        year -= 1
    return {day: dates[day] for day in sorted(dates)}


def plain_period(calendar, unit, day, date):
    if unit == "day":
        return day
    if unit == "week":
        number = 0
        begin = -calendar[5]
        while begin > day:
            begin, number = begin - calendar[4], number - 1
        while begin + calendar[4] <= day:
            begin, number = begin + calendar[4], number + 1
        return number
    if unit == "month":
        return date[0] * len(calendar[0]) + date[1] - 1
    return date[0]


def plain_week_years(calendar, dates):
    """A dict of the years to which all weeks that lie whole within some dates belong."""
    lying = {}
    for day, date in dates.items():
        week = (day + calendar[5]) // calendar[4]
        lying.setdefault(week, []).append(date[0])
    owners = {}
    for week, years in lying.items():
        if len(years) == calendar[4]:
            most = max(years.count(year) for year in years)
            owners[week] = max(year for year in years if years.count(year) == most)
    return owners


def plain_cycle(calendar):
    """The years of the cycle, its days, and the number of cycles of the great cycle."""
    years = 1
    for n, _ in calendar[3]:
        years = years * n // gcd(years, n)
    days = sum(len(plain_year(calendar, year)) for year in range(years))
    many = 1
    while many * days % calendar[4]:
        many += 1
    return years, days, many
