"""The plain meaning of points 34 to 38, moment by moment, to compare the program with."""

from tests.plain_calendar import plain_dates

# Little calendars with few minutes in a day: years of 9 to 14 days.
LITTLE_DAYS = [
    ((5, 6), 2, 1, ((2, True),), 3, 1, 4),
    ((7,), 1, 3, ((3, True),), 2, 0, 6),
    ((4, 3, 2), 1, 2, ((2, True), (4, False)), 5, 2, 5),
    ((9,), 1, 0, (), 4, 3, 7),
    ((3, 1, 6), 2, 2, ((4, True),), 2, 1, 3),
]

WAYS = ("both", "first", "last", "later", "earlier")


class PlainMonths:
    """The days of all months of a calendar from about -most to most."""

    def __init__(self, calendar, most):
        self.calendar = calendar
        self.months = {}
        for day, (year, month, _) in plain_dates(calendar, most).items():
            self.months.setdefault((year, month), []).append(day)

    def turns(self, zone, first, end):
        """The turns of a zone in the years from first to end - 1, in their order."""
        found = []
        if zone[2] is not None:
            for year in range(max(first, zone[2][0]), end):
                for month, place, weekday, minute, offset in zone[2][1]:
                    days = [
                        day for day in self.months.get((year, month), [])
                        if weekday is None or (day + self.calendar[5]) % self.calendar[4] == weekday
                    ]
                    if 1 <= place <= len(days) or -len(days) <= place <= -1:
                        day = days[place - 1 if place > 0 else place]
                        found.append((day * self.calendar[6] + minute, offset))
        return sorted(found)

    def word(self, zone):
        """What zone_word tells of a value with the form of a zone, if its years go from -30 to 30."""
        minutes = self.calendar[6]
        rows = zone[2][1] if zone[2] is not None else ()
        offsets = [zone[0], *[offset for _, offset in zone[1]], *[row[4] for row in rows]]
        if any(abs(offset) > minutes for offset in offsets):
            return "offset"
        if any(row[3] >= minutes for row in rows):
            return "minute"
        turns = self.turns(zone, -30, 60)
        if zone[1] and any(moment <= zone[1][-1][0] for moment, _ in turns):
            return "order"
        moves = [*zone[1], *turns]
        for index, (moment, offset) in enumerate(moves):
            ahead = zone[0] if index == 0 else moves[index - 1][1]
            if abs(offset - ahead) > minutes or index > 0 and moment - moves[index - 1][0] < 2 * minutes:
                return "near"
        return None


class PlainZone:
    """The offsets of a zone at all moments from first to end - 1, and the answers of local times."""

    def __init__(self, months, zone, first, end):
        self.moves = sorted([*zone[1], *months.turns(zone, -100, 200)])
        self.first, self.end = first, end
        self.offset = {}
        index, offset = 0, zone[0]
        for moment in range(first, end):
            while index < len(self.moves) and self.moves[index][0] <= moment:
                offset = self.moves[index][1]
                index += 1
            self.offset[moment] = offset
        self.answers = {}
        for moment, offset in self.offset.items():
            self.answers.setdefault(moment + offset, []).append(moment)

    def moments(self, local, way):
        """The moments that a way gives for a local time, by points 36 and 38."""
        answers = self.answers.get(local, [])
        if way == "both" or answers:
            return {"both": answers, "first": answers[:1], "later": answers[:1]}.get(way, answers[-1:])
        if way in ("first", "last"):
            return []
        moves = [(moment, self.offset[moment - 1], offset) for moment, offset in self.moves
                 if self.first < moment < self.end]
        (ahead, behind), = [(p, q) for m, p, q in moves if m + p <= local < m + q]
        return [local - ahead] if way == "later" else [local - behind]


def some_zone(chance, calendar):
    """A value with the form of a zone, which often fits the calendar."""
    minutes = calendar[6]
    moves = []
    moment = chance.randint(-150, 0)
    for _ in range(chance.choice([0, 0, 1, 2, 3])):
        moves.append((moment, chance.randint(-minutes, minutes)))
        moment += chance.randint(2 * minutes - 1 if chance.random() < 0.1 else 2 * minutes, 6 * minutes)
    rows = tuple(some_row(chance, calendar) for _ in range(chance.choice([1, 1, 2, 2, 3])))
    turns = None if chance.random() < 0.25 else (chance.randint(-3, 6), rows)
    return (chance.randint(-minutes, minutes + (chance.random() < 0.03)), tuple(moves), turns)


def some_row(chance, calendar):
    minutes, week = calendar[6], calendar[4]
    return (
        chance.randint(1, len(calendar[0]) + (chance.random() < 0.1)),
        chance.choice([1, 2, 3, -1, -2, -3, 4]),
        chance.choice([None, chance.randint(0, week - (chance.random() < 0.9))]),
        chance.randint(0, minutes - (chance.random() < 0.95)),
        chance.randint(-minutes, minutes),
    )


def some_fitting_zone(chance, calendar, months):
    while True:
        zone = some_zone(chance, calendar)
        if months.word(zone) is None:
            return zone
