"""What the tuples of expressions tell, days or moments, and what they ask for (point 25)."""

from everydue.forms import parts_of_tuple

DAYS = "days"
MOMENTS = "moments"
SETS = ("days", "moments")

_TELL_MOMENTS = ("at", "wide", "room")
_AS_THEIR_FIRST = ("or", "and", "without", "not", "least", "moved", "between")
_ASK_FOR_DAYS = ("on", "back", "near", "place", "every", "at")


def kind_of(answers, expression):
    """Returns what a tuple tells, days or moments; answers is a dict of answers that are sets."""
    while expression[0] in _AS_THEIR_FIRST:
        expression = parts_of_tuple(expression)[0]
    if expression[0] == "name":
        return answers[expression[1]][0]
    return MOMENTS if expression[0] in _TELL_MOMENTS else DAYS


def kind_fault(answers, expression):
    """Returns the place of the first tuple of another kind than the one in which it stands asks for, or None."""
    waiting = [(expression, kind_of(answers, expression))]
    place = 0
    while waiting:
        row, asked = waiting.pop()
        kind = kind_of(answers, row)
        if kind != asked:
            return place
        # What takes any kind tells what its first part tells.
        waiting.extend([(part, asked_by(row, kind)) for part in parts_of_tuple(row)[::-1]])
        place += 1
    return None


def asked_by(expression, first):
    """Returns the kind for which a tuple asks, if its first part tells this kind."""
    if expression[0] in _ASK_FOR_DAYS:
        return DAYS
    return first if expression[0] in _AS_THEIR_FIRST else MOMENTS
