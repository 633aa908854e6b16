"""Questions about values that may be of any kind.

None of them goes into a value deeper than its answer needs, so a value may be of any depth.
"""


def is_whole(value):
    """Whether a value is a plain integer (True and False are none)."""
    return type(value) is int


def is_from_to(value, low, high):
    """Whether a value is an integer from low to high, both counted."""
    return is_whole(value) and low <= value <= high


def is_flag(value):
    """Whether a value is True or False."""
    return value is True or value is False


def is_tuple(value):
    """Whether a value is a tuple."""
    return type(value) is tuple


def is_tuple_of(value, many):
    """Whether a value is a tuple with so many members."""
    return is_tuple(value) and len(value) == many
