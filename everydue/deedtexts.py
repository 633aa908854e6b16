"""The words of calendars and of deeds, and what is read from them (points 84 and 86)."""

from everydue.actions import GREATEST_DEVICE
from everydue.calendars import GREATEST_DIVISOR, LONGEST_MONTH, LONGEST_WEEK, MOST_EXTRA, MOST_MINUTES, MOST_MONTHS
from everydue.calendars import MOST_RULES, calendar_fault
from everydue.exprtexts import expression_words, read_expression
from everydue.ruletexts import read_zone, zone_words
from everydue.words import is_within, whole_of


def calendar_words(calendar):
    """Returns the list of the words of a calendar."""
    months, longer, extra, rules, week, first, minutes = calendar
    terms = [f"{divisor}/long" if yes else f"{divisor}/short" for divisor, yes in rules]
    words = ["calendar", *[str(days) for days in months], ";", str(longer), str(extra), *terms, ";"]
    return [*words, str(week), str(first), str(minutes), ";"]


def read_calendar(words):
    """Reads a calendar."""
    words.take_one(("calendar",))
    months = [words.take_whole(1, LONGEST_MONTH)]
    while len(months) < MOST_MONTHS and words.upcoming() != ";":
        months.append(words.take_whole(1, LONGEST_MONTH))
    words.take_one((";",))
    longer = words.take_whole(1, len(months))
    extra = words.take_whole(0, MOST_EXTRA)
    rules = []
    while len(rules) < MOST_RULES and words.upcoming() != ";":
        rules.append(_read_term(words))
    words.take_one((";",))
    week = words.take_whole(1, LONGEST_WEEK)
    first = words.take_whole(0, week - 1)
    minutes = words.take_whole(1, MOST_MINUTES)
    words.take_one((";",))
    calendar = (tuple(months), longer, extra, tuple(rules), week, first, minutes)
    # All members are right by now, so the fault can only be that of the cycle.
    if calendar_fault(calendar) is not None:
        words.refuse()
    return calendar


def _read_term(words):
    """Reads a rule of a calendar."""
    word, _, told = words.take().partition("/")
    divisor = whole_of(word)
    if not is_within(divisor, 1, GREATEST_DIVISOR) or told not in ("long", "short"):
        words.refuse()
    return (divisor, told == "long")


def deed_words(deed):
    """Returns the list of the words of a deed."""
    stamp, action = deed
    name, told = action[0], action[1]
    words = [*_stamp_words(stamp), name.replace(" ", "-")]
    if name == "undo":
        return [*words, *_stamp_words(told)]
    if name == "reform":
        return [*words, *calendar_words(told)]
    words.append(told)
    if name == "put":
        return [*words, *expression_words(action[2])]
    return [*words, *zone_words(action[2])] if name == "put zone" else words


def _stamp_words(stamp):
    """Returns the list of the words of a stamp."""
    return [str(stamp[0]), str(stamp[1])]


def read_deed(words):
    """Reads a deed."""
    stamp = _read_stamp(words)
    word = words.take_one(("put", "drop", "put-zone", "drop-zone", "reform", "undo"))
    name = word.replace("-", " ")
    if name == "undo":
        return (stamp, (name, _read_stamp(words)))
    if name == "reform":
        return (stamp, (name, read_calendar(words)))
    told = words.take_name()
    if name == "put":
        return (stamp, (name, told, read_expression(words)))
    if name == "put zone":
        return (stamp, (name, told, read_zone(words)))
    return (stamp, (name, told))


def _read_stamp(words):
    """Reads a stamp."""
    count = words.take_whole(1, None)
    return (count, words.take_whole(0, GREATEST_DEVICE))
