"""Values of all kinds by chance, and what a text needs at least to become an expression."""

from tests.plain_rules import some_rule
from tests.plain_calendar import LITTLE

BIG = 10 ** 60 - 1
LOW = -10 ** 59 + 1

# Words that stand somewhere in texts, and words that stand nowhere.
SOMEWHERE = [
    ";", "0", "1", "-1", "2", "7", "12", "13", "60", "400", "401", "1000", "1001", "1999", "2000", "in", "out", "none", "any",
    "rule", "set", "days", "@a", "@zz", "or", "and", "without", "not", "least", "moved", "between", "on", "back", "near",
    "place", "every", "at", "local-days", "wide", "room", "day", "week", "month", "year", "months", "year-days", "weekdays",
    "month-weekdays", "year-weekdays", "weeks", "places", "since", "until", "number", "0/1", "5/-1", "1..4", "6..9",
    "minutes", "zone", "move", "from", "turn", "both", "later", "a", "utc", "calendar", "4/long", "100/short", "book", "with",
    "let", "deeds", "put", "drop", "put-zone", "drop-zone", "reform", "undo", "claim", "same", "apart", "gap", "many", "next",
    "paper", "moments",
]
NOWHERE = ["", "?", "00", "01", "-0", "-", "--1", "+1", "1.0", "1 ", "1_0", "0x1", "\u0661", "@", "@A", "@abcdefghijklm", "Rule", ";;",
           "1" * 61, "-" + "1" * 60, "1..", "..1", "1...2", "1/", "/1", "01/1", "1/01", "1/Long", "None", "\n", "\t1", "\u00a0", "local days"]


def some_whole(chance):
    return chance.choice([0, 1, -1, chance.randint(-9, 9), chance.randint(-10 ** 6, 10 ** 6), BIG, LOW, chance.randint(LOW, BIG)])


def some_text_side(chance):
    period = chance.choice([1, 2, 7, 30, 10 ** 12, chance.randint(1, 10 ** 12)])
    many = 2 * chance.randint(0, min(3, period // 2))
    if period < 100:
        borders = chance.sample(range(period), many)
    else:
        borders = {chance.randint(0, period - 1) for _ in range(many)} | {0}
        borders = sorted(borders)[:len(borders) // 2 * 2]
    return (period, tuple(sorted(borders)), chance.random() < 0.5)


def some_text_dayset(chance):
    marks = sorted({some_whole(chance) for _ in range(chance.randint(2, 9))})
    if len(marks) % 2 or len(marks) < 2:
        marks = [*marks, marks[-1]] if len(marks) % 2 else [0, 0]
    low, high, inner = marks[0], marks[-1], marks[1:-1]
    runs = tuple(zip(inner[::2], inner[1::2]))
    if runs and chance.random() < 0.5:
        low, high = runs[0][0], runs[-1][1]
    return (some_text_side(chance), low, runs, high, some_text_side(chance))


def some_text_minuteset(chance):
    minutes = [0, *sorted(chance.sample(range(1, 2000), chance.randint(0, 3)))]
    return tuple((minute, some_text_dayset(chance)) for minute in minutes)


def some_text_zone(chance):
    moments = sorted({some_whole(chance) for _ in range(chance.randint(0, 4))})
    offset = lambda: chance.choice([0, 2000, -2000, chance.randint(-2000, 2000)])
    rows = tuple(
        (chance.choice([1, 12, BIG]), chance.choice([1, -1, BIG, LOW]), chance.choice([None, 0, 6, BIG]), chance.choice([0, 60, BIG]), offset())
        for _ in range(chance.randint(1, 4))
    )
    turns = None if chance.random() < 0.3 else (some_whole(chance), rows)
    return (offset(), tuple((moment, offset()) for moment in moments), turns)


def some_text_rule(chance):
    rule = some_rule(chance, chance.choice(LITTLE), 20)
    return (*rule[:2], some_whole(chance), *rule[3:]) if chance.random() < 0.5 else rule


def some_text_expression(chance, depth=1):
    """An expression of few tuples; it may be as deep as expressions may be."""
    kinds = ["rule", "days", "set", "name"]
    if depth < 12 and chance.random() < (0.8 if depth < 3 else 0.35):
        kinds = ["or", "and", "without", "on", "back", "near", "not", "least", "moved", "between", "place", "every", "at", "local days",
                 "wide", "room"]
    kind = chance.choice(kinds)
    if kind in ("rule", "days", "set", "name"):
        return {
            "rule": lambda: ("rule", some_text_rule(chance)),
            "days": lambda: ("days", tuple(sorted({some_whole(chance) for _ in range(chance.randint(0, 4))}))),
            "set": lambda: ("set", some_text_dayset(chance)),
            "name": lambda: ("name", some_name(chance)),
        }[kind]()
    part = some_text_expression(chance, depth + 1)
    step = chance.choice([1, 3, 1000])
    return {
        "not": lambda: ("not", part),
        "least": lambda: some_least(chance, depth, part),
        "moved": lambda: ("moved", part, some_whole(chance)),
        "between": lambda: ("between", part, chance.choice([None, some_whole(chance)]), chance.choice([None, some_whole(chance)])),
        "place": lambda: ("place", part, chance.choice(["day", "week", "month", "year"]), tuple(chance.sample([1, -1, 400, -400, 7], chance.randint(0, 5)))),
        "every": lambda: ("every", part, some_whole(chance), step, chance.randint(0, step - 1)),
        "at": lambda: ("at", part, chance.choice([0, 1999, 60]), some_name(chance), chance.choice(["both", "first", "last", "later", "earlier"])),
        "local days": lambda: ("local days", part, some_name(chance)),
        "wide": lambda: ("wide", part, abs(some_whole(chance)), abs(some_whole(chance))),
        "room": lambda: ("room", part, max(1, abs(some_whole(chance)))),
    }.get(kind, lambda: (kind, part, some_text_expression(chance, depth + 1)))()


def some_least(chance, depth, part):
    parts = (part, *[some_text_expression(chance, depth + 4) if depth < 8 else ("name", "a") for _ in range(chance.randint(0, 3))])
    return ("least", chance.randint(1, len(parts)), parts)


def some_name(chance):
    return "".join(chance.choice("abcxyz") for _ in range(chance.choice([1, 2, 12])))


class Given:
    """Given words, and behind them, as many as are needed, the fewest that make an expression of them."""

    def __init__(self, words):
        self.words = list(words)
        self.place = 0

    def take(self, least):
        if self.place == len(self.words):
            self.words.append(least)
        self.place += 1
        return self.words[self.place - 1]

    def expression(self):
        """Takes the words of an expression of names, or, not, least and moved, whatever its size."""
        word = self.take("@a")
        if word == "or":
            return ("or", self.expression(), self.expression())
        if word == "not":
            return ("not", self.expression())
        if word == "moved":
            number = int(self.take("0"))
            return ("moved", self.expression(), number)
        if word == "least":
            number = int(self.take("1"))
            parts = [self.expression() for _ in range(number)]
            while True:
                if self.take(";") == ";":
                    return ("least", number, tuple(parts))
                self.place -= 1
                parts.append(self.expression())
        return ("name", word[1:])
