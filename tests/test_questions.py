"""Points 17 to 19: questions about daysets."""

import random
import unittest

from everydue.daysets import ALL, EMPTY, holds, normal, periodic, single
from everydue.joins import moved, union, without
from everydue.questions import count_in, first_difference, is_in, last_in, least_gap, longest_break
from everydue.questions import meets, next_in, nth_from
from tests.some_sets import EACH, NOTHING, nearest, some_dayset, within

WINDOW = range(-150, 151)


def pure(side):
    return (side, 0, (), 0, side)


class QuestionsTest(unittest.TestCase):

    def test_next_last_count_and_nth_against_counting(self):
        chance = random.Random(171)
        for _ in range(400):
            one = some_dayset(chance)
            row = sorted(within(one, WINDOW))
            for x in (chance.randint(-40, 40), one[1], one[3], one[1] - 1, one[3] - 1):
                behind = [y for y in row if y >= x]
                self.assertEqual(next_in(one, x), behind[0] if behind else None, (one, x))
                self.assertEqual(last_in(one, x), max([y for y in row if y <= x], default=None), (one, x))
                end = chance.randint(-50, 60)
                self.assertEqual(count_in(one, x, end), len([y for y in behind if y < end]), (one, x, end))
                for number in (1, 2, chance.randint(1, 30)):
                    if number <= len(behind):
                        self.assertEqual(nth_from(one, x, number), behind[number - 1], (one, x, number))
                    elif normal(one)[4] == NOTHING:
                        self.assertIsNone(nth_from(one, x, number))

    def test_far_away_by_whole_periods(self):
        chance = random.Random(172)
        for _ in range(200):
            one = some_dayset(chance)
            for far in (-60 * 7 * 10 ** 29, 60 * 7 * 10 ** 29):
                x = far + chance.randint(0, 60)
                near = [y for y in range(x, x + 40) if holds(one, y)]
                self.assertEqual(next_in(one, x), near[0] if near else self.next_behind(one, x))
                near = [y for y in range(x - 40, x + 1) if holds(one, y)]
                self.assertEqual(last_in(one, x), near[-1] if near else self.last_ahead(one, x))
                self.assertEqual(count_in(one, x, x + 30), len([y for y in range(x, x + 30) if holds(one, y)]))

    def next_behind(self, one, x):
        return next_in(one, one[1]) if x < one[1] else None

    def last_ahead(self, one, x):
        return last_in(one, one[3] - 1) if x >= one[3] else None

    def test_count_over_very_many(self):
        self.assertEqual(count_in(ALL, -10 ** 30, 10 ** 30), 2 * 10 ** 30)
        self.assertEqual(count_in(periodic(7, [0, 3]), -7 * 10 ** 30, 7 * 10 ** 30), 4 * 10 ** 30)
        self.assertEqual(count_in(periodic(7, [0, 3]), -7 * 10 ** 30 + 1, 7 * 10 ** 30 + 1), 4 * 10 ** 30)
        self.assertEqual(count_in(single([5, 10 ** 29]), -10 ** 30, 10 ** 30), 2)
        one = (periodic(3, [0])[0], 10, ((11, 15),), 20, EACH)
        self.assertEqual(count_in(one, -3 * 10 ** 20, 10 ** 20), 10 ** 20 + 4 + 4 + 10 ** 20 - 20)
        for first, end in ((5, 5), (6, 5), (10 ** 30, -10 ** 30)):
            self.assertEqual(count_in(ALL, first, end), 0)

    def test_nth_of_very_many(self):
        self.assertEqual(nth_from(ALL, 5, 10 ** 30), 5 + 10 ** 30 - 1)
        self.assertEqual(nth_from(periodic(7, [0, 3]), 1, 10 ** 30), 7 * 5 * 10 ** 29)
        self.assertEqual(nth_from(periodic(7, [0, 3]), 0, 10 ** 30), 7 * (5 * 10 ** 29 - 1) + 3)
        self.assertEqual(nth_from((EACH, 4, (), 4, NOTHING), -10 ** 30, 10 ** 30 + 4), 3)
        self.assertIsNone(nth_from((EACH, 4, (), 4, NOTHING), -10 ** 30, 10 ** 30 + 5))
        one = (periodic(3, [0])[0], 10, ((11, 15),), 20, EACH)
        self.assertEqual(nth_from(one, -3 * 10 ** 20, 10 ** 20 + 4), 9)
        self.assertEqual(nth_from(one, -3 * 10 ** 20, 10 ** 20 + 5), 11)
        self.assertEqual(nth_from(one, -3 * 10 ** 20, 10 ** 20 + 8), 14)
        self.assertEqual(nth_from(one, -3 * 10 ** 20, 10 ** 20 + 9), 20)

    def test_none(self):
        for x in (0, 10 ** 30, -10 ** 30):
            self.assertIsNone(next_in(EMPTY, x))
            self.assertIsNone(last_in(EMPTY, x))
            self.assertIsNone(nth_from(EMPTY, x, 1))
            self.assertEqual(count_in(EMPTY, x, x + 10 ** 30), 0)
        self.assertIsNone(next_in(single([4]), 5))
        self.assertEqual(next_in(single([4]), 4), 4)
        self.assertIsNone(last_in(single([4]), 3))
        self.assertEqual(last_in(single([4]), 4), 4)
        self.assertIsNone(nth_from(single([4]), 4, 2))
        self.assertIsNone(next_in((EACH, 4, (), 4, NOTHING), 4))
        self.assertIsNone(last_in((NOTHING, 4, (), 4, EACH), 3))

    def test_long_ways(self):
        one = union(periodic(10 ** 12, [5]), single([10 ** 25]))
        self.assertEqual(next_in(one, 6), 10 ** 12 + 5)
        self.assertEqual(last_in(one, 4), 5 - 10 ** 12)
        self.assertEqual(last_in(one, 10 ** 25 + 4), 10 ** 25)
        self.assertEqual(next_in((NOTHING, 0, (), 0, (10 ** 12, (7, 8), False)), -10 ** 30), 7)
        self.assertEqual(last_in(((10 ** 12, (7, 8), False), 0, (), 0, NOTHING), 10 ** 30), 7 - 10 ** 12)


class TwoDaysetsTest(unittest.TestCase):

    def test_against_trying(self):
        chance = random.Random(181)
        for _ in range(400):
            one, two = some_dayset(chance), some_dayset(chance)
            if chance.random() < 0.4:
                two = union(one, two)
            first, second = within(one, WINDOW), within(two, WINDOW)
            for x in (chance.randint(-40, 40), 0, -17):
                self.assertEqual(first_difference(one, two, x), nearest(first ^ second, x), (one, two, x))
            self.assertIs(is_in(one, two), first <= second)
            self.assertIs(meets(one, two), bool(first & second))

    def test_two_days_just_as_near(self):
        one = single([10, 20])
        for two in (EMPTY, single([10 ** 9])):
            self.assertEqual(first_difference(one, two, 15), 20)
            self.assertEqual(first_difference(one, two, 14), 10)
            self.assertEqual(first_difference(one, two, 16), 20)
            self.assertEqual(first_difference(two, one, 15), 20)
        self.assertEqual(first_difference(one, without(one, single([20])), -10 ** 30), 20)
        self.assertEqual(first_difference(single([-5]), single([5]), 0), 5)
        self.assertEqual(first_difference(single([-5]), single([5]), -1), -5)

    def test_no_difference(self):
        side, twice = (4, (1, 3), False), (8, (1, 3, 5, 7), False)
        self.assertIsNone(first_difference(pure(side), (twice, 3, (), 3, side), 7))
        self.assertIsNone(first_difference(EMPTY, EMPTY, 10 ** 30))

    def test_differences_far_away(self):
        even = periodic(2, [0])
        self.assertEqual(first_difference(even, union(even, single([10 ** 30 + 1])), -10 ** 30), 10 ** 30 + 1)
        self.assertEqual(first_difference(ALL, (EACH, -10 ** 30, (), -10 ** 30, NOTHING), 10), 10)
        self.assertEqual(first_difference(periodic(999, [0]), periodic(999, [0, 998]), 10 ** 30 * 999), 10 ** 30 * 999 - 1)

    def test_in_and_meets(self):
        self.assertTrue(is_in(EMPTY, EMPTY))
        self.assertFalse(meets(EMPTY, EMPTY))
        self.assertFalse(meets(EMPTY, ALL))
        self.assertTrue(is_in(EMPTY, ALL))
        self.assertFalse(is_in(ALL, EMPTY))
        self.assertTrue(is_in(periodic(6, [3]), periodic(3, [0])))
        self.assertFalse(is_in(periodic(3, [0]), periodic(6, [3])))
        self.assertTrue(meets(periodic(97, [3]), periodic(101, [99])))
        self.assertFalse(meets(periodic(4, [1]), periodic(6, [2])))
        self.assertFalse(meets((EACH, 4, (), 4, NOTHING), (NOTHING, 4, (), 4, EACH)))
        self.assertTrue(meets((EACH, 5, (), 5, NOTHING), (NOTHING, 4, (), 4, EACH)))


class GapsTest(unittest.TestCase):

    def test_against_trying(self):
        chance = random.Random(191)
        window = range(-80, 81)
        for _ in range(600):
            one = some_dayset(chance, 6, 14)
            row = sorted(within(one, window))
            steps = [two - one for one, two in zip(row, row[1:])]
            self.assertEqual(least_gap(one), min(steps) if steps else None, one)
            self.assertEqual(longest_break(one), max(steps) - 1 if steps else None, one)

    def test_none_one_and_two_days(self):
        for one in (EMPTY, single([4]), single([10 ** 30])):
            self.assertIsNone(least_gap(one))
            self.assertIsNone(longest_break(one))
        self.assertEqual((least_gap(single([4, 9])), longest_break(single([4, 9]))), (5, 4))
        self.assertEqual((least_gap(single([4, 5])), longest_break(single([4, 5]))), (1, 0))
        far = single([-10 ** 30, 10 ** 30])
        self.assertEqual((least_gap(far), longest_break(far)), (2 * 10 ** 30, 2 * 10 ** 30 - 1))

    def test_sides_and_seams(self):
        self.assertEqual((least_gap(ALL), longest_break(ALL)), (1, 0))
        week = periodic(7, [2, 4])
        self.assertEqual((least_gap(week), longest_break(week)), (2, 4))
        once = periodic(10 ** 12, [5])
        self.assertEqual((least_gap(once), longest_break(once)), (10 ** 12, 10 ** 12 - 1))
        long = periodic(1000, [5, 6])
        self.assertEqual((least_gap(long), longest_break(long)), (1, 998))
        # The seam has the least gap, and the longest break.
        one = union(week, single([3]))
        self.assertEqual(least_gap(one), 1)
        one = without(week, single([2, 4]))
        self.assertEqual(longest_break(one), 11)
        one = (periodic(9, [0])[0], 1, (), 14, periodic(9, [5])[0])
        self.assertEqual((least_gap(one), longest_break(one)), (9, 13))
        one = (periodic(9, [0])[0], 1, (), 1, periodic(9, [1])[0])
        self.assertEqual((least_gap(one), longest_break(one)), (1, 8))
        self.assertEqual(longest_break((EACH, 0, (), 10 ** 30, EACH)), 10 ** 30)
        self.assertEqual(longest_break((EACH, 0, (), 10 ** 30, NOTHING)), 0)
        self.assertEqual(longest_break((EACH, 0, ((7, 9),), 9, NOTHING)), 7)
        self.assertEqual(least_gap(moved(week, 10 ** 20)), 2)


if __name__ == "__main__":
    unittest.main()
