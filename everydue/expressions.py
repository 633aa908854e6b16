"""Expressions: their faults, what they speak of, and what they tell (points 25, 26, 29 and 52)."""

from everydue.errors import TooLarge
from everydue.forms import has_form, parts_of_tuple
from everydue.kinds import SETS, kind_fault
from everydue.telling import told_of_parts

MOST_TUPLES = 60
MOST_IN_ONE_ANOTHER = 12


def expression_fault(expression):
    """Returns None, or the place of what is wrong with an expression (point 26)."""
    waiting = [(expression, 1)]
    deep = None
    place = 0
    while waiting:
        value, depth = waiting.pop()
        if not has_form(value):
            return place
        if depth > MOST_IN_ONE_ANOTHER and deep is None:
            deep = place
        waiting.extend([(part, depth + 1) for part in parts_of_tuple(value)[::-1]])
        place += 1
    if place <= MOST_TUPLES:
        return deep
    return MOST_TUPLES if deep is None else min(deep, MOST_TUPLES)


def tuples_of(expression):
    """Returns a list of the tuples of an expression in the order of their places (point 26)."""
    found = []
    waiting = [expression]
    while waiting:
        row = waiting.pop()
        found.append(row)
        waiting.extend(parts_of_tuple(row)[::-1])
    return found


def names_in(expression):
    """Returns a list of what an expression speaks of, in the order of the places.

    It is a list of pairs of the string entry or zone and a name, each pair once.
    """
    found = {}
    for row in tuples_of(expression):
        if row[0] == "name":
            found[("entry", row[1])] = True
        elif row[0] == "at":
            found[("zone", row[3])] = True
        elif row[0] == "local days":
            found[("zone", row[2])] = True
    return list(found)


def speaks_of(expression):
    """Returns the tuple of the entries, and that of the zones, of which an expression speaks (point 51)."""
    pairs = names_in(expression)
    entries = tuple([name for kind, name in pairs if kind == "entry"])
    return entries, tuple([name for kind, name in pairs if kind == "zone"])


def unheld(zones, answers, pairs):
    """Returns the answer of items 2 and 3 of point 52 that an expression has, or None if it has none of these.

    zones is a dict of the zones that fit, answers one of answers; pairs is what names_in tells of the expression.
    """
    for kind, name in pairs:
        if name not in (answers if kind == "entry" else zones):
            return ("missing", name)
    for kind, name in pairs:
        if kind == "entry" and answers[name][0] not in SETS:
            return ("through", name)
    return None


def told(calendar, zones, answers, expression):
    """Returns the answer of an expression: items 4 to 6 of point 52."""
    place = kind_fault(answers, expression)
    if place is not None:
        return ("kind", place)
    try:
        return _answer(calendar, zones, answers, expression)
    except TooLarge:
        return ("large",)


def _answer(calendar, zones, answers, expression):
    """Returns the answer of an expression whose kinds are right; raises TooLarge."""
    parts = [_answer(calendar, zones, answers, part) for part in parts_of_tuple(expression)]
    return told_of_parts(calendar, zones, answers, expression, parts)
