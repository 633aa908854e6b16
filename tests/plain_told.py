"""What expressions tell, day by day and moment by moment, by the words of points 15 to 45, in a window of days."""

from tests.plain_rules import PlainCalendar
from tests.plain_sets import plain_in
from tests.plain_zones import PlainMonths, PlainZone


class PlainTold:
    """The days and moments in a window; what is nearer to its ends than what is asked for reaches is not right."""

    def __init__(self, calendar, zones, entries, reach):
        self.calendar, self.entries, self.minutes = calendar, entries, calendar[6]
        self.days = range(-reach, reach)
        self.moments = range(-reach * self.minutes, reach * self.minutes)
        self.dates = PlainCalendar(calendar, reach + 60)
        months = PlainMonths(calendar, reach + 60)
        far = (reach + 20) * self.minutes
        self.zones = {name: PlainZone(months, zone, -far, far) for name, zone in zones.items()}

    def told(self, row):
        """A pair of the kind and the set of what an expression tells in the window."""
        name = row[0]
        if name == "name":
            return self.told(self.entries[row[1]])
        if name in ("rule", "days", "set"):
            return "days", self.told_alone(name, row[1])
        if name == "least":
            parts = [self.told(part) for part in row[2]]
            window = self.window(parts[0][0])
            return parts[0][0], {x for x in window if len([part for part in parts if x in part[1]]) >= row[1]}
        kind, one = self.told(row[1])
        if name in ("or", "and", "without"):
            two = self.told(row[2])[1]
            return kind, {"or": one | two, "and": one & two, "without": one - two}[name]
        if name == "not":
            return kind, set(self.window(kind)) - one
        if name == "moved":
            return kind, {x for x in self.window(kind) if x - row[2] in one}
        if name == "between":
            return kind, {x for x in one if (row[2] is None or row[2] <= x) and (row[3] is None or x <= row[3])}
        if name in ("on", "back", "near"):
            return "days", self.rolled(name, one, self.told(row[2])[1])
        return self.told_over(row, one)

    def window(self, kind):
        return self.days if kind == "days" else self.moments

    def told_alone(self, name, value):
        if name == "rule":
            return self.dates.told(value, self.days[0], self.days[-1] + 1)
        if name == "days":
            return set(value)
        return {x for x in self.days if plain_in(value, x)}

    def rolled(self, way, one, two):
        found = set()
        for d in two:
            if way == "near":
                for x in self.days:
                    if x in one and not any(abs(e - x) < abs(d - x) or abs(e - x) == abs(d - x) and e > d for e in two):
                        found.add(d)
                continue
            sign = 1 if way == "on" else -1
            last = max([e for e in (sign * e for e in two) if e < sign * d], default=None)
            if any((last is None or sign * x > last) and sign * x <= sign * d for x in one):
                found.add(d)
        return found

    def told_over(self, row, one):
        """What a tuple tells in which one other stands, which tells one."""
        name, minutes = row[0], self.minutes
        if name == "place":
            found = set()
            for period in self.dates.periods[row[2]].values():
                told = [d for d in period if d in one]
                found.update(d for k, d in enumerate(told) if k + 1 in row[3] or k - len(told) in row[3])
            return "days", found
        if name == "every":
            told = sorted(d for d in one if d >= row[2])
            return "days", {d for k, d in enumerate(told) if k % row[3] == row[4]}
        if name == "at":
            if row[2] >= minutes:
                return "moments", set()
            return "moments", {u for d in one for u in self.zones[row[3]].moments(d * minutes + row[2], row[4])}
        if name == "local days":
            offset = self.zones[row[2]].offset
            return "days", {(u + offset[u]) // minutes for u in one}
        if name == "wide":
            return "moments", {u for v in one for u in range(v - row[2], v + row[3] + 1)}
        return "moments", {u for u in self.moments if all(v in one for v in range(u, u + row[2]))}


def within_reach(kind, told, reach, minutes):
    """What of some days or moments lies in so many days around day 0."""
    reach *= 1 if kind == "days" else minutes
    return {x for x in told if -reach <= x < reach}


def some_told_expression(chance, calendar, names, some_rule, some_dayset, kind, depth=0):
    """A little expression that tells one kind, of names under which there are pairs of a kind and an expression."""
    def part(kind):
        return some_told_expression(chance, calendar, names, some_rule, some_dayset, kind, depth + 1)

    known = [name for name, told in names.items() if told == kind]
    if known and chance.random() < 0.3:
        return ("name", chance.choice(known))
    both = ["or", "and", "without", "not", "least", "moved", "between"]
    if kind == "days":
        alone = ["rule", "days", "set"]
        choices = alone if depth > 2 else [*alone, "on", "back", "near", "place", "every", "local days", chance.choice(both)]
    else:
        choices = ["at"] if depth > 2 else ["at", "wide", "room", chance.choice(both)]
    name = chance.choice(choices)
    low = chance.randint(-9, 9)
    return {
        "rule": lambda: ("rule", some_rule(chance, calendar, 30)),
        "days": lambda: ("days", tuple(sorted(chance.sample(range(-12, 12), chance.randint(0, 5))))),
        "set": lambda: ("set", some_dayset(chance, 4, 8)),
        "on": lambda: (name, part("days"), part("days")),
        "place": lambda: (name, part("days"), chance.choice(["day", "week", "month", "year"]), (chance.choice([1, 2, -1]), chance.choice([3, -2]))),
        "every": lambda: (name, part("days"), low, 3, chance.randint(0, 2)),
        "local days": lambda: (name, part("moments"), chance.choice(["p", "q"])),
        "at": lambda: (name, part("days"), chance.randint(0, calendar[6]), chance.choice(["p", "q"]),
                       chance.choice(["both", "first", "last", "later", "earlier"])),
        "wide": lambda: (name, part("moments"), chance.randint(0, 5), chance.randint(0, 5)),
        "room": lambda: (name, part("moments"), chance.randint(1, 6)),
        "not": lambda: (name, part(kind)),
        "least": lambda: (name, chance.randint(1, 2), (part(kind), part(kind), part(kind))),
        "moved": lambda: (name, part(kind), low),
        "between": lambda: (name, part(kind), chance.choice([None, low]), chance.choice([None, low + 9])),
    }.get(name, {"back": lambda: ("back", part("days"), part("days")), "near": lambda: ("near", part("days"), part("days"))}.get(
        name, lambda: (name, part(kind), part(kind))))()
