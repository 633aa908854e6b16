"""Rules, and the days that they tell (points 20 to 24)."""

from everydue.borders import many_borders, runs_between
from everydue.calendars import cycle_of
from everydue.checks import are_places, is_from_to, is_tuple, is_tuple_of, is_unit, is_whole, is_whole_or_none
from everydue.counting import counting_between, pattern_of
from everydue.daysets import EMPTY, holds, normal, pure
from everydue.errors import TooLarge
from everydue.sides import MOST_BORDERS, side_of_rests
from everydue.tallies import SideTally

GREATEST_INTERVAL = 1000
GREATEST_NUMBER = 10 ** 9
MOST_MEMBERS = 60
_MOST_RUNS = 40000

LIST_NAMES = ("months", "days", "year days", "weekdays", "month weekdays", "year weekdays", "weeks")


def rule_fault(rule):
    """Returns None, or the word for what is wrong with a rule (point 23)."""
    unit, interval, anchor, lists, places, since, until, number = rule
    if not is_unit(unit):
        return "unit"
    if not is_from_to(interval, 1, GREATEST_INTERVAL):
        return "interval"
    if not is_whole(anchor):
        return "anchor"
    if not _are_lists(lists):
        return "lists"
    if not are_places(places):
        return "places"
    if not is_whole_or_none(since):
        return "since"
    if not is_whole_or_none(until):
        return "until"
    if number is not None and (since is None or not is_from_to(number, 1, GREATEST_NUMBER)):
        return "number"
    return None


def _are_lists(value):
    """Returns whether a value is the lists of a rule."""
    if not is_tuple(value) or not all([is_tuple_of(row, 2) and row[0] in LIST_NAMES for row in value]):
        return False
    order = [LIST_NAMES.index(row[0]) for row in value]
    if not all([one < two for one, two in zip(order, order[1:])]):
        return False
    return all([_are_members(name, members) for name, members in value])


def _are_members(name, members):
    """Returns whether a value is the members of the list with a name."""
    if not is_tuple(members) or not 1 <= len(members) <= MOST_MEMBERS:
        return False
    if not all([is_member(name, member) for member in members]):
        return False
    return len(set(members)) == len(members)


def is_member(name, member):
    """Returns whether a value is a member of the list with a name."""
    if name == "weekdays":
        return is_from_to(member, 0, 13)
    if name in ("month weekdays", "year weekdays"):
        if not is_tuple_of(member, 2):
            return False
        return is_from_to(member[0], 0, 13) and is_from_to(member[1], -400, 400) and member[1] != 0
    return is_from_to(member, -2000, 2000) and member != 0


def tells(calendar, rule, day):
    """Returns whether a rule tells a day, by point 22 as it stands."""
    _, _, _, _, _, since, until, number = rule
    if since is not None and day < since or until is not None and day > until:
        return False
    if day not in counting_between(calendar, rule, day, day + 1):
        return False
    return number is None or _counted(calendar, rule, since, day) < number


def _counted(calendar, rule, begin, end):
    """Returns how many days count from begin to end - 1."""
    if end - begin <= cycle_of(calendar)[1]:
        return len(counting_between(calendar, rule, begin, end))
    tally = SideTally(_side_of(calendar, rule))
    return tally.below(end) - tally.below(begin)


def _side_of(calendar, rule):
    """Returns the least side of what counts."""
    period, rests = pattern_of(calendar, rule)
    return side_of_rests(period, rests)


def rule_days(calendar, rule):
    """Returns the dayset of all days that a rule tells (point 24); raises TooLarge."""
    _, _, _, _, _, since, until, number = rule
    side = _side_of(calendar, rule)
    if len(side[1]) > MOST_BORDERS:
        raise TooLarge("what counts has too many borders")
    nothing = EMPTY[0]
    if since is None and until is None:
        return pure(side)
    if since is None:
        return normal((side, until + 1, (), until + 1, nothing))
    last = _last_told(side, since, until, number)
    if last is None:
        return normal((nothing, since, (), since, side))
    if last < since:
        return EMPTY
    row = pure(side)
    # The first run may begin at since without a border there; then the first border is the end of a run.
    borders = many_borders(row, since + 1, last + 1)
    many = borders // 2 + 1 if holds(row, since) else (borders + 1) // 2
    if many > _MOST_RUNS:
        raise TooLarge("there are too many runs of days")
    return normal((nothing, since, tuple(runs_between(row, since, last + 1)), last + 1, nothing))


def _last_told(side, since, until, number):
    """Returns the last day that may be told, or None if there is none."""
    tally = SideTally(side)
    if number is None or tally.many == 0:
        return until
    last = tally.at(tally.below(since) + number - 1)
    return last if until is None else min(last, until)
