"""What one tuple of an expression tells, if it is known what the tuples in it tell (points 25 and 29)."""

from everydue.daysets import normal, single
from everydue.joins import combined, meet, moved, other, refuse_too_large, thinned, union, without
from everydue.kinds import DAYS, MOMENTS
from everydue.minutes import moments_between, moments_least, moments_meet, moments_moved, moments_other
from everydue.minutes import moments_union, moments_without, room, widened
from everydue.rolls import placed, rolled
from everydue.rules import rule_days
from everydue.widening import interval
from everydue.zones import days_at, local_days


def told_of_parts(calendar, zones, answers, expression, parts):
    """Returns the answer of a tuple; parts is a list of the answers of the tuples directly in it.

    The answers are sets of the kinds for which the tuple asks. Raises TooLarge as point 29 says.
    """
    name = expression[0]
    if name == "name":
        return answers[expression[1]]
    rows = [part[1] for part in parts]
    if name in ("rule", "days", "set"):
        return (DAYS, _told_alone(calendar, expression))
    if name in ("on", "back", "near"):
        return (DAYS, rolled(rows[0], rows[1], name))
    if name == "place":
        return (DAYS, placed(calendar, rows[0], expression[2], expression[3]))
    if name == "every":
        return (DAYS, thinned(rows[0], expression[2], expression[3], expression[4]))
    if name == "local days":
        return (DAYS, local_days(calendar, rows[0], zones[expression[2]]))
    if name == "at":
        return (MOMENTS, days_at(calendar, rows[0], expression[2], zones[expression[3]], expression[4]))
    if name == "wide":
        return (MOMENTS, widened(calendar, rows[0], expression[2], expression[3]))
    if name == "room":
        return (MOMENTS, room(calendar, rows[0], expression[2]))
    if parts[0][0] == DAYS:
        return (DAYS, _told_of_days(expression, rows))
    return (MOMENTS, _told_of_moments(calendar, expression, rows))


def _told_alone(calendar, expression):
    """Returns the dayset of a tuple in which no others stand."""
    name, told = expression
    if name == "rule":
        return rule_days(calendar, told)
    if name == "days":
        return single(told)
    return normal(told)


def _told_of_days(expression, rows):
    """Returns the dayset of a tuple that tells days if those in it do."""
    name = expression[0]
    if name == "or":
        return union(rows[0], rows[1])
    if name == "and":
        return meet(rows[0], rows[1])
    if name == "without":
        return without(rows[0], rows[1])
    if name == "not":
        return other(rows[0])
    if name == "moved":
        return moved(rows[0], expression[2])
    if name == "between":
        return meet(rows[0], interval(expression[2], expression[3]))
    refuse_too_large(rows)
    return combined(rows, [many >= expression[1] for many in range(len(rows) + 1)])


def _told_of_moments(calendar, expression, rows):
    """Returns the minuteset of a tuple that tells moments if those in it do."""
    name = expression[0]
    if name == "or":
        return moments_union(calendar, rows[0], rows[1])
    if name == "and":
        return moments_meet(calendar, rows[0], rows[1])
    if name == "without":
        return moments_without(calendar, rows[0], rows[1])
    if name == "not":
        return moments_other(calendar, rows[0])
    if name == "moved":
        return moments_moved(calendar, rows[0], expression[2])
    if name == "between":
        return moments_meet(calendar, rows[0], moments_between(calendar, expression[2], expression[3]))
    return moments_least(calendar, expression[1], rows)
