"""Points 47 to 50: spans, how many at once, meetings and turns."""

import copy
import random
import unittest
from fractions import Fraction
from math import lcm

from everydue.calendars import GREGORIAN
from everydue.daysets import ALL, EMPTY, periodic, single
from everydue.errors import TooLarge
from everydue.minutes import ALWAYS, NEVER, moments_between, moments_union, widened
from everydue.spans import busy, greatest_load, load, loads, meeting, turns_taken
from tests.some_sets import NOTHING, calendar_with, moments_within, nearest, some_minuteset
from tests.test_claims import row_of


def some_row(chance, minutes):
    """A list of minutesets, some of them alike, some empty or full."""
    rows = [some_minuteset(chance, minutes) for _ in range(chance.randint(0, 4))]
    if rows and chance.random() < 0.4:
        rows.append(chance.choice(rows))
    if chance.random() < 0.2:
        rows.append(chance.choice([NEVER, ALWAYS]))
    chance.shuffle(rows)
    return rows


def far_parts(minutes, rows, loads_at, place):
    """The parts of all moments with each load, on the side with a place, told by what lies far away."""
    period = lcm(1, *[dayset[place][0] for row in rows for _, dayset in row]) * minutes
    begin = -10 ** 6 * period if place == 0 else 10 ** 6 * period
    told = [loads_at(u) for u in range(begin, begin + period)]
    parts = [Fraction(told.count(k), period) for k in range(len(rows) + 1)]
    return [(part.numerator, part.denominator) for part in parts]


class BusyTest(unittest.TestCase):

    def test_as_widened(self):
        chance = random.Random(471)
        for _ in range(150):
            minutes = chance.randint(1, 6)
            calendar, one, length = calendar_with(minutes), some_minuteset(chance, minutes), chance.randint(1, 12)
            told = busy(calendar, one, length)
            self.assertEqual(told, widened(calendar, one, 0, length - 1))
            window = range(-8 * minutes, 8 * minutes)
            begins = moments_within(minutes, one, range(-12 * minutes - 12, 8 * minutes))
            plain = {u for u in window if any(u - k in begins for k in range(length))}
            self.assertEqual(moments_within(minutes, told, window), plain)

    def test_too_large(self):
        one = moments_between(GREGORIAN, 0, 0)
        self.assertEqual(busy(GREGORIAN, one, 20 * 1440 + 1), moments_between(GREGORIAN, 0, 20 * 1440))
        with self.assertRaises(TooLarge):
            busy(GREGORIAN, one, 20 * 1440 + 2)
        self.assertEqual(busy(GREGORIAN, ((0, row_of(10000)),), 1), ((0, row_of(10000)),))
        with self.assertRaises(TooLarge):
            busy(GREGORIAN, ((0, row_of(10001)),), 1)


class LoadsTest(unittest.TestCase):

    def test_against_trying(self):
        chance = random.Random(481)
        several = 0
        for _ in range(250):
            minutes = chance.randint(1, 4)
            calendar, rows = calendar_with(minutes), some_row(chance, minutes)
            before = copy.deepcopy(rows)
            # Behind the ends of all that is in the middle, all sides are seen whole here: their periods are 1 to 3.
            window = range(-20 * minutes, 20 * minutes)
            members = [moments_within(minutes, row, window) for row in rows]
            at = {u: len([row for row in members if u in row]) for u in window}
            for u in chance.sample(list(window), 5):
                self.assertEqual(load(calendar, rows, u), at[u])
            x = chance.randint(-8 * minutes, 8 * minutes)
            most = max(at.values())
            self.assertEqual(greatest_load(calendar, rows, x), (most, nearest([u for u in window if at[u] == most], x)))
            several += most > 2
            told = loads(calendar, rows)
            self.assertIs(type(told), list)
            sides = [far_parts(minutes, rows, lambda u: load(calendar, rows, u), place) for place in (0, 4)]
            self.assertEqual(told, list(zip(*sides)))
            self.assertEqual(rows, before)
        self.assertGreater(several, 30)

    def test_none(self):
        self.assertEqual(load(GREGORIAN, [], 5), 0)
        self.assertEqual(greatest_load(GREGORIAN, [], 5), (0, 5))
        self.assertEqual(loads(GREGORIAN, []), [((1, 1), (1, 1))])
        self.assertEqual(greatest_load(GREGORIAN, [NEVER, NEVER], -7), (0, -7))
        self.assertEqual(loads(GREGORIAN, [NEVER, ALWAYS]), [((0, 1), (0, 1)), ((1, 1), (1, 1)), ((0, 1), (0, 1))])

    def test_ends_and_beginnings_that_touch(self):
        one, two = moments_between(GREGORIAN, 0, 99), moments_between(GREGORIAN, 100, 199)
        self.assertEqual(greatest_load(GREGORIAN, [one, two], 100), (1, 100))
        self.assertEqual(greatest_load(GREGORIAN, [one, two, one], 150), (2, 99))
        self.assertEqual(greatest_load(GREGORIAN, [one, moments_between(GREGORIAN, 99, 150)], 9), (2, 99))
        self.assertEqual([load(GREGORIAN, [one, two, one], u) for u in (-1, 0, 99, 100, 199, 200)], [0, 2, 2, 1, 1, 0])

    def test_the_later_one_of_two(self):
        rows = [moments_union(GREGORIAN, moments_between(GREGORIAN, 0, 10), moments_between(GREGORIAN, 20, 30))]
        self.assertEqual([greatest_load(GREGORIAN, rows, x)[1] for x in (-5, 5, 14, 15, 16, 40)], [0, 5, 10, 20, 20, 30])

    def test_far_away(self):
        far = 10 ** 40
        rows = [moments_between(GREGORIAN, far, far + 5), moments_between(GREGORIAN, far + 5, None)]
        self.assertEqual(greatest_load(GREGORIAN, rows, 0), (2, far + 5))
        self.assertEqual(loads(GREGORIAN, rows), [((1, 1), (0, 1)), ((0, 1), (1, 1)), ((0, 1), (0, 1))])
        self.assertEqual(load(GREGORIAN, rows, far + 6), 1)
        half = ((0, periodic(2, [0])),)
        self.assertEqual(loads(GREGORIAN, [half, ((0, EMPTY), (720, ALL))]), [((1, 4), (1, 4)), ((1, 2), (1, 2)), ((1, 4), (1, 4))])

    def test_too_large(self):
        calendar = calendar_with(2000)
        rows = [((0, row_of(10000)),), ((0, row_of(10000)),)]
        self.assertEqual(greatest_load(calendar, rows, 0), (2, 0))
        self.assertEqual(len(loads(calendar, rows)), 3)
        many = [((0, EMPTY), *[(minute, ALL if minute % 4 == k else EMPTY) for minute in range(k, 2 * most, 2)]) for k, most in ((1, 200), (2, 200))]
        more = [many[0], (*many[1], (401, EMPTY))]
        self.assertEqual(greatest_load(calendar, many, 0)[0], 2)
        self.assertEqual(len(loads(calendar, many)), 3)
        for large in ([((0, row_of(10000)),), ((0, row_of(10001)),)], more,
                      [((0, periodic(10 ** 6 + 3, [0])),), ((0, periodic(10 ** 6, [0])),)]):
            for ask in (lambda: greatest_load(calendar, large, 0), lambda: loads(calendar, large)):
                with self.assertRaises(TooLarge):
                    ask()
            self.assertIn(load(calendar, large, 0), (0, 1, 2))


class MeetingTest(unittest.TestCase):

    def test_against_trying(self):
        chance = random.Random(491)
        found = {}
        for _ in range(300):
            minutes = chance.randint(1, 4)
            calendar, rows = calendar_with(minutes), some_row(chance, minutes)
            before = copy.deepcopy(rows)
            number, length, x = chance.randint(1, len(rows) + 1), chance.randint(1, 7), chance.randint(-40, 40)
            window = range(x, x + 100 + 30 * minutes)
            members = [moments_within(minutes, row, range(x, x + 120 + 30 * minutes)) for row in rows]
            plain = None
            for u in window:
                free = [row for row in members if all(v in row for v in range(u, u + length))]
                if len(free) >= number:
                    plain = u
                    break
            self.assertEqual(meeting(calendar, rows, number, length, x), plain)
            found[plain is None, plain == x] = True
            self.assertEqual(rows, before)
        self.assertEqual(len(found), 3)

    def test_the_same_persons_are_free_throughout(self):
        one, two, three = moments_between(GREGORIAN, 0, 59), moments_between(GREGORIAN, 60, 119), moments_between(GREGORIAN, 30, 99)
        self.assertEqual(meeting(GREGORIAN, [one, two], 1, 60, -5), 0)
        self.assertEqual(meeting(GREGORIAN, [one, two], 1, 60, 1), 60)
        self.assertIsNone(meeting(GREGORIAN, [one, two], 1, 61, -5))
        # One and three are free together from 30 to 59, two and three from 60 to 99: not the same two throughout.
        self.assertEqual(meeting(GREGORIAN, [one, two, three], 2, 30, -5), 30)
        self.assertEqual(meeting(GREGORIAN, [one, two, three], 2, 31, -5), 60)
        self.assertIsNone(meeting(GREGORIAN, [one, two, three], 2, 41, -5))
        self.assertIsNone(meeting(GREGORIAN, [one, two, three], 3, 1, -5))
        self.assertIsNone(meeting(GREGORIAN, [], 1, 1, -5))
        self.assertEqual(meeting(GREGORIAN, [ALWAYS] * 12, 12, 20 * 1440, 10 ** 40), 10 ** 40)
        self.assertIsNone(meeting(GREGORIAN, [one], 1, 60, 1))

    def test_too_large(self):
        calendar = calendar_with(1000)
        with self.assertRaises(TooLarge):
            meeting(calendar, [ALWAYS, ALWAYS], 1, 20 * 1000 + 2, 0)
        self.assertEqual(meeting(calendar, [ALWAYS, ALWAYS], 1, 20 * 1000 + 1, 0), 0)
        # For each one the measure counts twice; then both count together.
        for one, two, large in ((10000, 10000, False), (10001, 1, True), (1, 10001, True)):
            rows = [((0, row_of(one)),), ((0, row_of(two)),)]
            if large:
                with self.assertRaises(TooLarge):
                    meeting(calendar, rows, 1, 1, 0)
            else:
                self.assertEqual(meeting(calendar, rows, 2, 1000, 0), 0)
        rows = [((0, row_of(7000)),), ((0, row_of(7000)),)]
        self.assertEqual(meeting(calendar, rows, 2, 1000, 1), 2000)
        rows.append(((0, row_of(7000)),))
        with self.assertRaises(TooLarge):
            meeting(calendar, rows, 2, 1000, 1)


class TurnsTest(unittest.TestCase):

    def plain_turns(self, minutes, rows, x, many, reach):
        """The turns from x on, as far as a window reaches."""
        turns, found = {k: [] for k in range(len(rows))}, []
        window = range(x, x + reach)
        members = [moments_within(minutes, row, window) for row in rows]
        for u in window:
            free = [k for k in range(len(rows)) if u in members[k]]
            if free and len(found) < many:
                least = min(free, key=lambda k: (len(turns[k]), turns[k][-1] if turns[k] else -1, k))
                turns[least].append(len(found))
                found.append((u, least))
        return found

    def test_against_trying(self):
        chance = random.Random(501)
        few = 0
        for _ in range(250):
            minutes = chance.randint(1, 4)
            calendar, rows = calendar_with(minutes), some_row(chance, minutes)
            before = copy.deepcopy(rows)
            x, many = chance.randint(-20, 20), chance.randint(0, 15)
            told = turns_taken(calendar, rows, x, many)
            self.assertIs(type(told), list)
            self.assertEqual(told, self.plain_turns(minutes, rows, x, many, 150 + 20 * minutes))
            few += len(told) < many
            self.assertEqual(rows, before)
        self.assertGreater(few, 20)

    def test_ties(self):
        self.assertEqual(turns_taken(GREGORIAN, [ALWAYS] * 3, 7, 7), [(7, 0), (8, 1), (9, 2), (10, 0), (11, 1), (12, 2), (13, 0)])
        one, two = moments_between(GREGORIAN, 0, 2), moments_between(GREGORIAN, 2, 9)
        self.assertEqual(turns_taken(GREGORIAN, [one, two], -5, 6), [(0, 0), (1, 0), (2, 1), (3, 1), (4, 1), (5, 1)])
        # Both had one turn: that of two came first.
        rows = [moments_between(GREGORIAN, 1, 9), moments_between(GREGORIAN, 0, 9)]
        self.assertEqual(turns_taken(GREGORIAN, rows, 0, 4), [(0, 1), (1, 0), (2, 1), (3, 0)])
        # The one without a turn comes ahead of all.
        rows = [ALWAYS, ALWAYS, moments_between(GREGORIAN, 4, 9)]
        self.assertEqual(turns_taken(GREGORIAN, rows, 0, 8), [(0, 0), (1, 1), (2, 0), (3, 1), (4, 2), (5, 2), (6, 0), (7, 1)])

    def test_edges(self):
        for rows in ([], [NEVER], [ALWAYS, NEVER]):
            self.assertEqual(turns_taken(GREGORIAN, rows, 0, 0), [])
        self.assertEqual(turns_taken(GREGORIAN, [], 0, 5), [])
        self.assertEqual(turns_taken(GREGORIAN, [NEVER, NEVER], 0, 5), [])
        self.assertEqual(turns_taken(GREGORIAN, [NEVER, ALWAYS], 10 ** 40, 1), [(10 ** 40, 1)])
        self.assertEqual(turns_taken(GREGORIAN, [moments_between(GREGORIAN, 0, 3)], 2, 1000), [(2, 0), (3, 0)])
        told = turns_taken(GREGORIAN, [((0, EMPTY), (60, periodic(7, [3])), (61, EMPTY)), ((0, single([10])), (5, EMPTY))], 0, 1000)
        self.assertEqual((len(told), told[0], told[1], told[-1]), (1000, (3 * 1440 + 60, 0), (14400, 1), ((3 + 7 * 994) * 1440 + 60, 0)))

    def test_they_are_never_too_large(self):
        rows = [((0, row_of(20000)),), ((0, row_of(20000, 3)),), ((0, periodic(10 ** 12 - 11, [0])),), ((0, periodic(10 ** 12, [0])),)]
        self.assertEqual(turns_taken(calendar_with(1), rows, 0, 4), [(0, 0), (2, 0), (3, 1), (4, 0)])
        self.assertEqual(rows[0][0][1][0], NOTHING)


if __name__ == "__main__":
    unittest.main()
