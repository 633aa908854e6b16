"""Questions about values that may be of any kind.

None of them goes into a value deeper than its answer needs, so a value may be of any depth.
"""

UNITS = ("day", "week", "month", "year")
MOST_PLACES = 12
GREATEST_PLACE = 400


def is_whole(value):
    """Whether a value is a plain integer (True and False are none)."""
    return type(value) is int


def is_from_to(value, low, high):
    """Whether a value is an integer from low to high, both counted."""
    return is_whole(value) and low <= value <= high


def is_flag(value):
    """Whether a value is True or False."""
    return value is True or value is False


def is_tuple(value):
    """Whether a value is a tuple."""
    return type(value) is tuple


def is_tuple_of(value, many):
    """Whether a value is a tuple with so many members."""
    return is_tuple(value) and len(value) == many


def is_whole_or_none(value):
    """Whether a value is an integer or None."""
    return value is None or is_whole(value)


def is_name(value):
    """Whether a value is a name: 1 to 12 of the letters a to z."""
    if type(value) is not str or not 1 <= len(value) <= 12:
        return False
    return all(["a" <= letter <= "z" for letter in value])


def is_unit(value):
    """Whether a value is a unit (point 6)."""
    return value in UNITS


def is_place(value):
    """Whether a value is one of the places of a rule (point 20)."""
    return is_from_to(value, -GREATEST_PLACE, GREATEST_PLACE) and value != 0


def are_places(value):
    """Whether a value is the places of a rule (point 20)."""
    if not is_tuple(value) or len(value) > MOST_PLACES or not all([is_place(place) for place in value]):
        return False
    return len(set(value)) == len(value)


def is_ascending(values):
    """Whether all of some values are integers, each greater than the one ahead of it."""
    if not all([is_whole(value) for value in values]):
        return False
    return all([one < two for one, two in zip(values, values[1:])])
