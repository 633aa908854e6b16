"""Papers: what each tuple of an expression tells, and the judge of them (points 69 to 71); days near to others."""

from everydue.checks import is_tuple, is_tuple_of, is_whole
from everydue.daysets import dayset_fault, normal
from everydue.errors import NoPaper, TooLarge
from everydue.expressions import names_in, unheld
from everydue.forms import parts_of_tuple
from everydue.kinds import DAYS, MOMENTS, asked_by, kind_fault
from everydue.minutes import minuteset_fault, normal_minutes
from everydue.telling import told_of_parts
from everydue.widening import stretched


def paper_of(calendar, zones, answers, expression):
    """Returns the paper of an expression that is right at all places (point 71); raises NoPaper."""
    answer = unheld(zones, answers, names_in(expression))
    if answer is not None:
        raise NoPaper(answer)
    place = kind_fault(answers, expression)
    if place is not None:
        raise NoPaper(("kind", place))
    try:
        return tuple(_members(calendar, zones, answers, expression))
    except TooLarge:
        raise NoPaper(("large",)) from None


def _members(calendar, zones, answers, expression):
    """Returns a list of the members of the paper of an expression whose kinds are right; raises TooLarge."""
    rows = [_members(calendar, zones, answers, part) for part in parts_of_tuple(expression)]
    own = told_of_parts(calendar, zones, answers, expression, [row[0] for row in rows])
    return [own, *[member for row in rows for member in row]]


def judge_paper(calendar, zones, answers, expression, paper):
    """Returns the first place at which a paper of an expression is not right, or None (point 71)."""
    rows = _with_places(expression)
    wrong = [len(rows)] if len(paper) > len(rows) else []
    sets = {}
    # Each tuple comes behind those in it, so that it is known of these whether they are right.
    for place in reversed(range(len(rows))):
        row, places = rows[place]
        member = paper[place] if place < len(paper) else None
        if member is not None and _is_right(calendar, zones, answers, row, [sets[part] for part in places], member):
            sets[place] = member
        else:
            wrong.append(place)
            sets[place] = None if member is None else _set_of(calendar, member)
    return min(wrong, default=None)


def _with_places(expression):
    """Returns a list of the tuples of an expression, each with the list of the places of those directly in it."""
    found = []
    waiting = [(expression, None)]
    while waiting:
        row, outer = waiting.pop()
        place = len(found)
        if outer is not None:
            found[outer][1].append(place)
        found.append((row, []))
        waiting.extend([(part, place) for part in parts_of_tuple(row)[::-1]])
    return found


def _set_of(calendar, member):
    """Returns the normal set that a member of a paper is, with its kind; None if it is no set without a fault.

    What functions return may have more borders than a dayset without a fault: so what is right is not asked here.
    """
    kind, value = member
    if kind == DAYS and is_tuple_of(value, 5) and dayset_fault(value) is None:
        return (DAYS, normal(value))
    if kind == MOMENTS and minuteset_fault(calendar, value) is None:
        return (MOMENTS, normal_minutes(calendar, value))
    return None


def _is_right(calendar, zones, answers, expression, parts, member):
    """Returns whether a member is what a tuple tells, if those directly in it tell the parts (point 70).

    A part that is no set without a fault is None.
    """
    if any([part is None for part in parts]):
        return False
    if any([part[0] != asked_by(expression, parts[0][0]) for part in parts]):
        return False
    try:
        answer = told_of_parts(calendar, zones, answers, expression, parts)
    except TooLarge:
        return False
    return member == answer and _has_flags_alike(member, answer)


def _has_flags_alike(one, two):
    """Returns whether two equal values have True and False at the same places, where they equal 1 and 0."""
    waiting = [(one, two)]
    while waiting:
        first, second = waiting.pop()
        if is_tuple(first):
            waiting.extend(list(zip(first, second)))
        elif is_whole(first) != is_whole(second):
            return False
    return True


def near_days(dayset, back, on):
    """Returns the dayset of the days d with a day of a dayset from d - on to d + back (point 74)."""
    return stretched(normal(dayset), back, on)
