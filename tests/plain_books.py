"""Books by the words of points 52, 54, 57 and 58, and deeds by chance."""

from everydue.daysets import ALL
from everydue.expressions import speaks_of, told, tuples_of
from everydue.zones import zone_word

NAMES = ("a", "b", "c", "d", "e", "f")
ZONE_NAMES = ("p", "q")

CALENDARS = [((5, 6), 2, 1, ((2, True),), 3, 1, 4), ((7,), 1, 3, ((3, True),), 2, 0, 6)]

ZONES = [(0, (), None), (2, (), None), (0, ((5, 3), (100, -1)), None), (5, (), None), (0, ((0, 0), (1, 0)), None)]


def plain_at_last(entries, name):
    """The names of which an entry speaks at last, held ones."""
    found, waiting = set(), [name]
    while waiting:
        for other in speaks_of(entries[waiting.pop()])[0]:
            if other in entries and other not in found:
                found.add(other)
                waiting.append(other)
    return found


def plain_answer(calendar, zones, entries, name):
    """The answer of an entry, by point 52 as it stands."""
    if name in plain_at_last(entries, name):
        return ("circle",)
    for one in tuples_of(entries[name]):
        if one[0] == "name" and one[1] not in entries:
            return ("missing", one[1])
        zone = {"at": one[3:4], "local days": one[2:3]}.get(one[0], ())
        if zone and (zone[0] not in zones or zone_word(calendar, zones[zone[0]]) is not None):
            return ("missing", zone[0])
    answers = {}
    for other in speaks_of(entries[name])[0]:
        answers[other] = plain_answer(calendar, zones, entries, other)
        if answers[other][0] not in ("days", "moments"):
            return ("through", other)
    fitting = {zone: zones[zone] for zone in speaks_of(entries[name])[1]}
    return told(calendar, fitting, answers, entries[name])


def plain_rows(entries):
    """The names of all entries in the order of point 57."""
    order = []
    while True:
        ready = [name for name in entries if name not in order
                 and all(other in order for other in speaks_of(entries[name])[0] if other in entries)]
        if not ready:
            return order
        order.append(min(ready))


def some_expression(chance, depth=0):
    """A little expression that speaks of entries and of zones."""
    kinds = ["days", "name", "name", "or", "and", "without", "not", "moved", "at", "local days", "wide", "on"]
    kind = chance.choice(kinds if depth < 3 else kinds[:2])
    if chance.random() < 0.03:
        return ("every", ("set", ALL), -30000, 1, 0)
    if kind == "days":
        return ("days", tuple(sorted(chance.sample(range(10), chance.randint(0, 3)))))
    if kind == "name":
        return ("name", chance.choice(NAMES))
    part = some_expression(chance, depth + 1)
    if kind in ("or", "and", "without", "on"):
        return (kind, part, some_expression(chance, depth + 1))
    return {
        "not": ("not", part),
        "moved": ("moved", part, chance.randint(-3, 3)),
        "at": ("at", part, chance.randint(0, 5), chance.choice(ZONE_NAMES), chance.choice(["both", "later"])),
        "local days": ("local days", part, chance.choice(ZONE_NAMES)),
        "wide": ("wide", part, chance.randint(0, 3), chance.choice([0, 2, 200])),
    }[kind]


def some_deed(chance):
    """A deed of a book: the name of a method and its arguments."""
    kind = chance.choice(["put", "put", "put", "put", "drop", "put_zone", "drop_zone", "reform"])
    return {
        "put": ("put", chance.choice(NAMES), some_expression(chance)),
        "drop": ("drop", chance.choice(NAMES)),
        "put_zone": ("put_zone", chance.choice(ZONE_NAMES), chance.choice(ZONES)),
        "drop_zone": ("drop_zone", chance.choice(ZONE_NAMES)),
        "reform": ("reform", chance.choice(CALENDARS)),
    }[kind]


def do(book, deed):
    """Does a deed with a book."""
    getattr(book, deed[0])(*deed[1:])
