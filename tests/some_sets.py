"""Daysets and minutesets by chance, and what is in them by the words of the document."""

from tests.plain_sets import plain_in, plain_runs, side_of_rests

NOTHING = (1, (), False)
EACH = (1, (), True)


def some_side(chance, most):
    """A side, sometimes written out two or three times."""
    period = chance.randint(1, most)
    rests = [r for r in range(period) if chance.random() < 0.5]
    times = chance.choice([1, 1, 2, 3])
    return side_of_rests(period * times, [r + period * k for k in range(times) for r in rests])


def some_dayset(chance, most=6, reach=10):
    """A dayset, normal or not, sometimes empty or full on a side, sometimes pure."""
    low = chance.randint(-reach, reach)
    high = low + chance.randint(0, reach)
    sides = [some_side(chance, most), some_side(chance, most)]
    for place in (0, 1):
        if chance.random() < 0.2:
            sides[place] = chance.choice([NOTHING, EACH, (3, (), True)])
    if chance.random() < 0.3:
        sides[1] = sides[0]
    runs = plain_runs([x for x in range(low, high) if chance.random() < 0.5])
    if chance.random() < 0.2:
        # What is pure, with its middle written out.
        sides[1] = sides[0]
        runs = plain_runs([x for x in range(low, high) if plain_in((sides[0], high, (), high, sides[0]), x)])
    return (sides[0], low, runs, high, sides[1])


def within(dayset, window):
    """The set of those integers of a window that are in a dayset."""
    return {x for x in window if plain_in(dayset, x)}


def calendar_with(minutes):
    """A little calendar whose days have so many minutes."""
    return ((1,), 1, 0, (), 1, 0, minutes)


def some_minuteset(chance, minutes, most=3, reach=4):
    """A minuteset, normal or not, in which neighbours are often equal."""
    marks = [0, *[mark for mark in range(1, minutes) if chance.random() < 0.5]]
    daysets = [some_dayset(chance, most, reach) for _ in range(2)]
    return tuple((mark, chance.choice(daysets)) for mark in marks)


def plain_moment(minutes, minuteset, moment):
    """Whether a moment is in a minuteset, by point 40 as it stands."""
    day, minute = divmod(moment, minutes)
    return plain_in([dayset for mark, dayset in minuteset if mark <= minute][-1], day)


def moments_within(minutes, minuteset, window):
    return {u for u in window if plain_moment(minutes, minuteset, u)}


def nearest(members, x):
    """The one of some integers that is nearest to x, the greater one of two; None if there is none."""
    return min(members, key=lambda y: (abs(y - x), -y), default=None)
