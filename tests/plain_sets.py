"""The plain meaning of points 9 to 13, integer by integer, to compare the program with."""

NONE = (1, (), False)
EACH = (1, (), True)


def plain_in_side(side, x):
    period, borders, inside = side
    rest = x % period
    many = len([border for border in borders if border <= rest])
    return many % 2 == (0 if inside else 1)


def plain_in(dayset, x):
    left, low, runs, high, right = dayset
    if x < low:
        return plain_in_side(left, x)
    if x >= high:
        return plain_in_side(right, x)
    return any(a <= x <= b - 1 for a, b in runs)


def side_of_rests(period, rests):
    """The side with a period, not made less, of which the integers with some remainders are."""
    borders = [r for r in range(period) if (r in rests) != ((r - 1) % period in rests)]
    return (period, tuple(borders), period - 1 in rests)


def plain_least(side):
    period = side[0]
    rests = [r for r in range(period) if plain_in_side(side, r)]
    for less in range(1, period + 1):
        if all(plain_in_side(side, r) == plain_in_side(side, r + less) for r in range(period)):
            return side_of_rests(less, [r % less for r in rests])
    raise AssertionError("each side has its own period")


def plain_runs(days):
    """The runs of an ascending list of integers."""
    runs = []
    for day in days:
        if runs and runs[-1][1] == day:
            runs[-1] = (runs[-1][0], day + 1)
        else:
            runs.append((day, day + 1))
    return tuple(runs)


def plain_normal(dayset):
    """The normal form of a dayset with little periods, by point 11 as it stands."""
    left, low, _, high, right = dayset
    reach = left[0] * right[0] + left[0] + right[0] + 1
    window = range(low - reach, high + reach + 1)
    unlike_left = [x for x in window if plain_in(dayset, x) != plain_in_side(left, x)]
    unlike_right = [x for x in window if plain_in(dayset, x) != plain_in_side(right, x)]
    left, right = plain_least(left), plain_least(right)
    if not unlike_left and not unlike_right:
        return (left, 0, (), 0, right)
    first = min(unlike_left)
    end = max([first, *[x + 1 for x in unlike_right]])
    runs = plain_runs([x for x in range(first, end) if plain_in(dayset, x)])
    return (left, first, runs, end, right)
