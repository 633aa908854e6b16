"""Minutesets as the parts of a day and the days of each (points 40 to 42)."""

from everydue.daysets import normal
from everydue.errors import TooLarge
from everydue.joins import combined, refuse_too_large

MOST_PAIRS = 400


def normal_pairs(minuteset):
    """Returns the normal minuteset with the same moments (point 40)."""
    return merged([(minute, normal(dayset)) for minute, dayset in minuteset])


def merged(pairs):
    """Returns the normal minuteset of pairs whose daysets are normal, of which neighbours may be equal."""
    rows = []
    for minute, dayset in pairs:
        if not rows or rows[-1][1] != dayset:
            rows.append((minute, dayset))
    return tuple(rows)


def parts_of(calendar, minuteset):
    """Returns a list of the parts of a day, as (begin, end, dayset), with the days in which each of them is in."""
    ends = [*[pair[0] for pair in minuteset[1:]], calendar[6]]
    return [(minute, end, dayset) for (minute, dayset), end in zip(minuteset, ends)]


def daysets_of(minutesets):
    """Returns a list of all daysets of some minutesets."""
    return [dayset for minuteset in minutesets for _, dayset in minuteset]


def minutes_of(minutesets):
    """Returns an ascending list of 0 and the different minutes in the pairs of some minutesets."""
    return sorted(set([0, *[minute for minuteset in minutesets for minute, _ in minuteset]]))


def refuse_many_pairs(pairs):
    """Raises TooLarge if there are too many pairs, or too many minutes that may become pairs."""
    if len(pairs) > MOST_PAIRS:
        raise TooLarge("there would be too many pairs")


def join_minutes(minutesets, flags):
    """Returns the minuteset of what is in so many of some minutesets that the flag of this number is True.

    Raises TooLarge as point 29 says for or.
    """
    rows, minutes = rows_to_join(minutesets)
    return joined_at(minutes, rows, flags)


def rows_to_join(minutesets):
    """Returns some minutesets in their normal form, and the minutes of all of them.

    Raises TooLarge as point 29 says for or.
    """
    rows = [normal_pairs(minuteset) for minuteset in minutesets]
    refuse_too_large(daysets_of(rows))
    minutes = minutes_of(rows)
    refuse_many_pairs(minutes)
    return rows, minutes


def joined_at(minutes, rows, flags):
    """Returns the same as join_minutes of normal minutesets, whatever its size; the minutes are all of theirs."""
    numbers = _numbers_of(rows)
    places = [0 for _ in rows]
    known = {}
    pairs = []
    for minute in minutes:
        for index, row in enumerate(rows):
            if places[index] < len(row) and row[places[index]][0] == minute:
                places[index] += 1
        days = [row[place - 1][1] for row, place in zip(rows, places)]
        # The same daysets often stand at many minutes: they are joined once.
        key = tuple([numbers[index][place - 1] for index, place in enumerate(places)])
        if key not in known:
            known[key] = combined(days, flags)
        pairs.append((minute, known[key]))
    return merged(pairs)


def _numbers_of(rows):
    """Returns, for each of some minutesets, a list of numbers of its daysets, which are the same for equal ones."""
    known = {}
    for dayset in daysets_of(rows):
        if dayset not in known:
            known[dayset] = len(known)
    return [[known[dayset] for _, dayset in row] for row in rows]


def any_of(rows):
    """Returns the dayset of what is in any of some normal daysets, whatever their sizes."""
    flags = [False, *[True for _ in rows]]
    return combined(rows, flags)
