"""The borders and the runs of daysets from one integer to another (point 13)."""

from everydue.daysets import holds
from everydue.sides import count_below


def side_borders(side, begin, end):
    """Returns a list of the borders of a side from begin to end - 1."""
    period, borders, _ = side
    found = []
    if not borders or begin >= end:
        return found
    turn = begin - begin % period
    place = count_below(borders, begin % period)
    while True:
        if place == len(borders):
            place = 0
            turn += period
        if turn + borders[place] >= end:
            return found
        found.append(turn + borders[place])
        place += 1


def many_side_borders(side, begin, end):
    """Returns how many borders a side has from begin to end - 1."""
    if begin >= end:
        return 0
    return _side_borders_up_to(side, end) - _side_borders_up_to(side, begin)


def _side_borders_up_to(side, end):
    """Returns how many borders a side has from 0 to end - 1, with a minus if end is less than 0."""
    turns, rest = divmod(end, side[0])
    return turns * len(side[1]) + count_below(side[1], rest)


def middle_borders(dayset):
    """Returns a list of the borders of a dayset from its low to its high, both counted."""
    _, low, runs, high, _ = dayset
    borders = [border for run in runs for border in run if low < border < high]
    if holds(dayset, low - 1) != holds(dayset, low):
        borders = [low, *borders]
    if low < high and holds(dayset, high - 1) != holds(dayset, high):
        borders.append(high)
    return borders


def borders_between(dayset, begin, end):
    """Returns a list of the borders of a dayset from begin to end - 1."""
    left, low, _, high, right = dayset
    found = side_borders(left, begin, min(end, low))
    if begin <= high and low < end:
        found.extend([border for border in middle_borders(dayset) if begin <= border < end])
    found.extend(side_borders(right, max(begin, high + 1), end))
    return found


def many_borders(dayset, begin, end):
    """Returns how many borders a dayset has from begin to end - 1."""
    left, low, _, high, right = dayset
    many = many_side_borders(left, begin, min(end, low)) + many_side_borders(right, max(begin, high + 1), end)
    if begin <= high and low < end:
        many += len([border for border in middle_borders(dayset) if begin <= border < end])
    return many


def runs_between(dayset, begin, end):
    """Returns a list of the runs of what a dayset holds from begin to end - 1."""
    if begin >= end:
        return []
    return paired(begin, holds(dayset, begin), borders_between(dayset, begin + 1, end), end)


def paired(begin, inside, borders, end):
    """Returns a list of the runs that some borders make, where inside tells whether begin is in one."""
    marks = [begin, *borders] if inside else list(borders)
    if len(marks) % 2 == 1:
        marks.append(end)
    return list(zip(marks[::2], marks[1::2]))
