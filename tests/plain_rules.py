"""The plain meaning of points 21 and 22, day by day, to compare the program with."""

from tests.plain_calendar import plain_dates, plain_week_years

UNITS = ("day", "week", "month", "year")
NAMES = ("months", "days", "year days", "weekdays", "month weekdays", "year weekdays", "weeks")


def places_in(rows):
    """A dict of the two places of each member in its row."""
    return {x: (index + 1, index - len(row)) for row in rows for index, x in enumerate(row)}


def grouped(days, key):
    groups = {}
    for day in days:
        groups.setdefault(key(day), []).append(day)
    return groups


class PlainCalendar:
    """All that the rules ask of the days of a calendar from about -most to most."""

    def __init__(self, calendar, most):
        self.dates = dates = plain_dates(calendar, most)
        self.months = len(calendar[0])
        days = list(dates)
        week, first = calendar[4], calendar[5]
        self.weekday = {day: (day + first) % week for day in days}
        self.week = {day: (day + first) // week for day in days}
        month = grouped(days, lambda day: dates[day][:2])
        year = grouped(days, lambda day: dates[day][0])
        self.periods = {
            "day": {day: [day] for day in days},
            "week": grouped(days, lambda day: self.week[day]),
            "month": {y * self.months + m - 1: row for (y, m), row in month.items()},
            "year": year,
        }
        self.number = {unit: {day: n for n, row in rows.items() for day in row} for unit, rows in self.periods.items()}
        owners = plain_week_years(calendar, dates)
        self.places = {
            "days": places_in(month.values()),
            "year days": places_in(year.values()),
            "month weekdays": places_in(grouped(days, lambda day: (dates[day][:2], self.weekday[day])).values()),
            "year weekdays": places_in(grouped(days, lambda day: (dates[day][0], self.weekday[day])).values()),
            "weeks": places_in(grouped(sorted(owners), lambda week: owners[week]).values()),
        }

    def fits(self, name, members, day):
        """Whether a day fits a list, by point 21."""
        if name == "months":
            month = self.dates[day][1]
            return month in members or month - self.months - 1 in members
        if name == "weekdays":
            return self.weekday[day] in members
        if name == "weeks":
            return any(place in members for place in self.places[name][self.week[day]])
        if name in ("month weekdays", "year weekdays"):
            return any((self.weekday[day], place) in members for place in self.places[name][day])
        return any(place in members for place in self.places[name][day])

    def counting(self, rule, first, end):
        """An ascending list of the days that count from first to end - 1, by point 22."""
        unit, interval, anchor, lists, places = rule[:5]
        found = []
        for number, row in self.periods[unit].items():
            if (number - self.number[unit][anchor]) % interval or row[-1] < first or row[0] >= end:
                continue
            candidates = [day for day in row if all(self.fits(name, members, day) for name, members in lists)]
            told = places_in([candidates])
            found.extend(day for day in candidates if not places or any(place in places for place in told[day]))
        return sorted(day for day in found if first <= day < end)

    def told(self, rule, first, end):
        """The set of the days that a rule tells from first to end - 1; since, if there is one, is not less than first."""
        since, until, number = rule[5:]
        days = self.counting(rule, first, end)
        days = [day for day in days if (since is None or day >= since) and (until is None or day <= until)]
        return set(days if number is None else days[:number])


def some_list(chance, calendar, name):
    """Some members of a list, of which a calendar need not have all."""
    months, week = calendar[0], calendar[4]

    def place(most):
        return chance.choice((-1, 1)) * chance.randint(1, most)

    members = {}
    for _ in range(chance.randint(1, 3)):
        weekday = chance.randint(0, min(13, week))
        member = {
            "months": place(len(months) + 1),
            "days": place(max(months) + 1),
            "year days": place(sum(months) + 1),
            "weekdays": weekday,
            "month weekdays": (weekday, place(max(months) // week + 2)),
            "year weekdays": (weekday, place(min(400, sum(months) // week + 2))),
            "weeks": place(sum(months) // week + 2),
        }[name]
        members[member] = True
    return tuple(members)


def some_rule(chance, calendar, reach):
    """A rule without a fault, with its days from -reach to reach."""
    unit = chance.choice(UNITS)
    interval = chance.choice([1, 1, 2, 3, 4, 5, 7, 12, chance.randint(1, 30)])
    lists = tuple((name, some_list(chance, calendar, name)) for name in NAMES if chance.random() < 0.22)
    places = tuple(chance.sample([-3, -2, -1, 1, 2, 3], chance.randint(1, 3))) if chance.random() < 0.4 else ()
    since = chance.choice([None, chance.randint(-reach, reach)])
    until = chance.choice([None, None, chance.randint(-reach, 2 * reach)])
    number = chance.choice([None, chance.randint(1, 20)]) if since is not None else None
    return (unit, interval, chance.randint(-reach, reach), lists, places, since, until, number)
