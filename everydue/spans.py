"""Spans, how many minutesets hold a moment at once, meetings and turns (points 47 to 50)."""

from everydue.dayparts import joined_at, rows_to_join
from everydue.minutes import NEVER, moment_holds, moment_nearest, moment_next, moments_least, room, share, widened


def busy(calendar, minuteset, length):
    """Returns the minuteset of the moments in spans of so many minutes from those of a minuteset on (point 47)."""
    return widened(calendar, minuteset, 0, length - 1)


def load(calendar, minutesets, moment):
    """Returns in how many of a list of minutesets a moment is (point 48)."""
    return len([row for row in minutesets if moment_holds(calendar, row, moment)])


def greatest_load(calendar, minutesets, moment):
    """Returns the greatest load of a list of minutesets, and the moment nearest to one with it (point 48)."""
    rows, minutes = rows_to_join(minutesets)
    number = len(rows)
    found = joined_at(minutes, rows, _just(number, rows))
    # What no moment reaches is passed over; 0 is reached if nothing else is.
    while found == NEVER:
        number -= 1
        found = joined_at(minutes, rows, _just(number, rows))
    return number, moment_nearest(calendar, found, moment)


def loads(calendar, minutesets):
    """Returns a list of the parts of all moments with each load, of the far past and the far future (point 48)."""
    rows, minutes = rows_to_join(minutesets)
    return [share(calendar, joined_at(minutes, rows, _just(number, rows))) for number in range(len(rows) + 1)]


def _just(number, rows):
    """Returns the flags of what is in just so many of some rows."""
    return [many == number for many in range(len(rows) + 1)]


def meeting(calendar, minutesets, number, length, moment):
    """Returns the first moment from one on from which some so many are free, each throughout, or None (point 49)."""
    free = [room(calendar, row, length) for row in minutesets]
    return moment_next(calendar, moments_least(calendar, number, free), moment)


def turns_taken(calendar, minutesets, moment, many):
    """Returns a list of the first moments from one on in some minutesets, each with whose turn it is (point 50)."""
    ahead = [moment_next(calendar, row, moment) for row in minutesets]
    # For each minuteset: how many turns it had, when it had the last one (0 for never), and its number.
    taken = [(0, 0, number) for number in range(len(minutesets))]
    found = []
    while len(found) < many:
        coming = [mark for mark in ahead if mark is not None]
        if not coming:
            break
        now = min(coming)
        turns, _, number = min([row for row, mark in zip(taken, ahead) if mark == now])
        found.append((now, number))
        taken[number] = (turns + 1, len(found), number)
        ahead = [moment_next(calendar, row, now + 1) if mark == now else mark for row, mark in zip(minutesets, ahead)]
    return found
