"""Stamps, actions and deeds of devices, and books that are made by actions (points 59 and 63)."""

from everydue.calendars import calendar_fault
from everydue.checks import is_from_to, is_name, is_tuple, is_tuple_of, is_whole
from everydue.expressions import expression_fault
from everydue.zones import has_zone_form

GREATEST_DEVICE = 15

_LENGTHS = {"put": 3, "drop": 2, "put zone": 3, "drop zone": 2, "reform": 2, "undo": 2}


def is_stamp(value):
    """Returns whether a value is a stamp."""
    if not is_tuple_of(value, 2):
        return False
    return is_whole(value[0]) and value[0] >= 1 and is_from_to(value[1], 0, GREATEST_DEVICE)


def is_action(value):
    """Returns whether a value is an action without a fault."""
    if not is_tuple(value) or not value or type(value[0]) is not str or _LENGTHS.get(value[0]) != len(value):
        return False
    name, told = value[0], value[1]
    if name == "undo":
        return is_stamp(told)
    if name == "reform":
        return is_tuple_of(told, 7) and calendar_fault(told) is None
    if not is_name(told):
        return False
    if name == "put":
        return expression_fault(value[2]) is None
    return name != "put zone" or has_zone_form(value[2])


def is_deed(value):
    """Returns whether a value is a deed of a device."""
    return is_tuple_of(value, 2) and is_stamp(value[0]) and is_action(value[1])


def lay(book, calendar, actions):
    """Makes a book what one without zones and entries, with a calendar, becomes by actions, none of which is undo."""
    zones, entries = {}, {}
    for action in actions[:-1]:
        name, told = action[0], action[1]
        if name == "put":
            entries[told] = action[2]
        elif name == "drop":
            entries.pop(told, None)
        elif name == "put zone":
            zones[told] = action[2]
        elif name == "drop zone":
            zones.pop(told, None)
        else:
            calendar = told
    # Only the last action is done for itself: the book tells of it alone, and keeps its answers until then.
    book.become(calendar, zones, entries)
    if actions:
        _do(book, actions[-1])


def _do(book, action):
    """Does an action with a book."""
    name, told = action[0], action[1]
    if name == "put":
        book.put(told, action[2])
    elif name == "drop":
        book.drop(told)
    elif name == "put zone":
        book.put_zone(told, action[2])
    elif name == "drop zone":
        book.drop_zone(told)
    else:
        book.reform(told)
