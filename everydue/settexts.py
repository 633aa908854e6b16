"""The words of daysets and minutesets, and what is read from them (points 79 and 80)."""

from everydue.forms import GREATEST_MINUTE
from everydue.sides import GREATEST_PERIOD, MOST_BORDERS


def side_words(side):
    """Returns the list of the words of a side."""
    period, borders, inside = side
    return [str(period), "in" if inside else "out", *[str(border) for border in borders], ";"]


def read_side(words):
    """Reads a side."""
    period = words.take_whole(1, GREATEST_PERIOD)
    inside = words.take_one(("in", "out")) == "in"
    borders = []
    while len(borders) < MOST_BORDERS and words.upcoming() != ";":
        # Borders stand in twos, so the first one of two is right only if it leaves room for the other one.
        first = words.take_whole(borders[-1] + 1 if borders else 0, period - 2)
        borders.extend([first, words.take_whole(first + 1, period - 1)])
    words.take_one((";",))
    return (period, tuple(borders), inside)


def dayset_words(dayset):
    """Returns the list of the words of a dayset, without the one ahead of it."""
    left, low, runs, high, right = dayset
    pairs = [f"{begin}..{end}" for begin, end in runs]
    return [*side_words(left), str(low), *pairs, ";", str(high), *side_words(right)]


def read_dayset(words):
    """Reads a dayset, without the word ahead of it."""
    left = read_side(words)
    low = words.take_whole(None, None)
    runs = []
    end = low
    while len(runs) < MOST_BORDERS and words.upcoming() != ";":
        least = end + 1 if runs else low
        begin, end = words.take_pair("..")
        if not least <= begin < end:
            words.refuse()
        runs.append((begin, end))
    words.take_one((";",))
    high = words.take_whole(end, None)
    return (left, low, tuple(runs), high, read_side(words))


def minuteset_words(minuteset):
    """Returns the list of the words of a minuteset."""
    words = ["minutes"]
    for minute, dayset in minuteset:
        words.append(str(minute))
        words.extend(dayset_words(dayset))
    return [*words, ";"]


def read_minuteset(words):
    """Reads a minuteset."""
    words.take_one(("minutes",))
    pairs = [(words.take_whole(0, 0), read_dayset(words))]
    while not words.take_if(";"):
        minute = words.take_whole(pairs[-1][0] + 1, GREATEST_MINUTE)
        pairs.append((minute, read_dayset(words)))
    return tuple(pairs)
