"""The forms of the tuples of expressions, and the tuples in them (points 25 and 26)."""

from everydue.checks import are_places, is_ascending, is_from_to, is_name, is_tuple, is_tuple_of, is_unit
from everydue.checks import is_whole, is_whole_or_none
from everydue.daysets import dayset_fault
from everydue.rules import rule_fault

WAYS = ("both", "first", "last", "later", "earlier")

MOST_DAYS = 200
MOST_PARTS = 12
GREATEST_STEP = 1000
GREATEST_MINUTE = 1999

# For each name, how many members its tuples have.
_LENGTHS = {
    "rule": 2,
    "days": 2,
    "set": 2,
    "name": 2,
    "or": 3,
    "and": 3,
    "without": 3,
    "not": 2,
    "least": 3,
    "moved": 3,
    "between": 4,
    "on": 3,
    "back": 3,
    "near": 3,
    "place": 4,
    "every": 5,
    "at": 5,
    "local days": 3,
    "wide": 4,
    "room": 3,
}


def has_form(value):
    """Returns whether a value is one of the tuples of point 25, whatever stands in it in the place of expressions."""
    if not is_tuple(value) or not value or type(value[0]) is not str:
        return False
    if _LENGTHS.get(value[0]) != len(value):
        return False
    check = _CHECKS.get(value[0])
    return check is None or check(value)


def parts_of_tuple(expression):
    """Returns a list of what stands directly in a tuple, of one of the forms, in the place of expressions."""
    name = expression[0]
    if name in ("rule", "days", "set", "name"):
        return []
    if name in ("or", "and", "without", "on", "back", "near"):
        return [expression[1], expression[2]]
    if name == "least":
        return list(expression[2])
    return [expression[1]]


def _is_rule(value):
    """Returns whether a tuple has a rule without a fault."""
    return is_tuple_of(value[1], 8) and rule_fault(value[1]) is None


def _is_days(value):
    """Returns whether a tuple has ascending days."""
    return is_tuple(value[1]) and len(value[1]) <= MOST_DAYS and is_ascending(value[1])


def _is_set(value):
    """Returns whether a tuple has a dayset without a fault."""
    return is_tuple_of(value[1], 5) and dayset_fault(value[1]) is None


def _is_name(value):
    """Returns whether a tuple has a name."""
    return is_name(value[1])


def _is_least(value):
    """Returns whether a tuple has a number and a row of so many members at least."""
    _, number, row = value
    return is_tuple(row) and 1 <= len(row) <= MOST_PARTS and is_from_to(number, 1, len(row))


def _is_moved(value):
    """Returns whether a tuple has a number by which something is moved."""
    return is_whole(value[2])


def _is_between(value):
    """Returns whether a tuple has two bounds."""
    return is_whole_or_none(value[2]) and is_whole_or_none(value[3])


def _is_place(value):
    """Returns whether a tuple has a unit and places."""
    return is_unit(value[2]) and are_places(value[3])


def _is_every(value):
    """Returns whether a tuple has a begin, a step and a rest."""
    _, _, begin, step, rest = value
    return is_whole(begin) and is_from_to(step, 1, GREATEST_STEP) and is_from_to(rest, 0, step - 1)


def _is_at(value):
    """Returns whether a tuple has a minute, the name of a zone and a way."""
    return is_from_to(value[2], 0, GREATEST_MINUTE) and is_name(value[3]) and value[4] in WAYS


def _is_local_days(value):
    """Returns whether a tuple has the name of a zone."""
    return is_name(value[2])


def _is_wide(value):
    """Returns whether a tuple has two lengths."""
    return is_whole(value[2]) and value[2] >= 0 and is_whole(value[3]) and value[3] >= 0


def _is_room(value):
    """Returns whether a tuple has a length."""
    return is_whole(value[2]) and value[2] >= 1


_CHECKS = {
    "rule": _is_rule,
    "days": _is_days,
    "set": _is_set,
    "name": _is_name,
    "least": _is_least,
    "moved": _is_moved,
    "between": _is_between,
    "place": _is_place,
    "every": _is_every,
    "at": _is_at,
    "local days": _is_local_days,
    "wide": _is_wide,
    "room": _is_room,
}
