"""Points 9 and 10, and `holds` of point 17: which integers are in sides and in daysets."""

import random
import unittest

from everydue.daysets import ALL, EMPTY, dayset_fault, holds, periodic, single
from tests.plain_sets import EACH, NONE, plain_in, plain_normal, plain_runs, side_of_rests


def pure(side):
    return (side, 0, (), 0, side)


def days_from(dayset, first, end):
    return [x for x in range(first, end) if holds(dayset, x)]


class HoldsTest(unittest.TestCase):

    def test_empty_and_all(self):
        self.assertEqual(EMPTY, (NONE, 0, (), 0, NONE))
        self.assertEqual(ALL, (EACH, 0, (), 0, EACH))
        for x in (0, 1, -1, 17, 10 ** 30, -10 ** 30):
            self.assertIs(holds(EMPTY, x), False)
            self.assertIs(holds(ALL, x), True)

    def test_borders_of_a_side(self):
        self.assertEqual(days_from(pure((5, (1, 3), False)), -5, 10), [-4, -3, 1, 2, 6, 7])
        self.assertEqual(days_from(pure((5, (1, 3), True)), -5, 10), [-5, -2, -1, 0, 3, 4, 5, 8, 9])
        self.assertEqual(days_from(pure((5, (0, 1), False)), -5, 10), [-5, 0, 5])
        self.assertEqual(days_from(pure((5, (0, 4), True)), -5, 10), [-1, 4, 9])
        self.assertEqual(days_from(pure((3, (), True)), -2, 3), [-2, -1, 0, 1, 2])
        self.assertEqual(days_from(pure((3, (), False)), -2, 3), [])
        self.assertEqual(days_from(pure((6, (0, 1, 2, 3, 4, 5), False)), -6, 6), [-6, -4, -2, 0, 2, 4])

    def test_sides_begin_at_low_and_high(self):
        dayset = ((2, (0, 1), False), -3, ((-3, -1), (2, 4)), 6, (3, (1, 2), False))
        self.assertIsNone(dayset_fault(dayset))
        self.assertEqual(days_from(dayset, -9, 15), [-8, -6, -4, -3, -2, 2, 3, 7, 10, 13])
        turned = (EACH, -3, ((0, 1),), 3, EACH)
        self.assertEqual(days_from(turned, -6, 6), [-6, -5, -4, 0, 3, 4, 5])
        self.assertEqual(days_from((EACH, 2, (), 2, NONE), -2, 6), [-2, -1, 0, 1])
        self.assertEqual(days_from((NONE, 2, (), 2, EACH), -2, 6), [2, 3, 4, 5])

    def test_little_daysets_integer_by_integer(self):
        chance = random.Random(17)
        for _ in range(400):
            dayset = some_dayset(chance)
            self.assertIsNone(dayset_fault(dayset))
            for x in range(-60, 61):
                told = holds(dayset, x)
                self.assertIs(told, plain_in(dayset, x), (dayset, x))

    def test_days_of_any_size(self):
        side = (10 ** 12, (5, 10 ** 11, 10 ** 12 - 3, 10 ** 12 - 1), False)
        runs = ((-10 ** 40, -10 ** 39), (-5, 7), (10 ** 39, 10 ** 40))
        dayset = (side, -10 ** 41, runs, 10 ** 41, (7, (0, 2), True))
        self.assertIsNone(dayset_fault(dayset))
        for x in (-10 ** 40, -10 ** 39, -5, 7, 10 ** 39, 10 ** 40, 0, 10 ** 41, -10 ** 41, 10 ** 300, -10 ** 300):
            for near in range(x - 15, x + 16):
                self.assertIs(holds(dayset, near), plain_in(dayset, near), near)
        for turns in (-10 ** 288, -10 ** 30 - 1):
            for rest in (0, 4, 5, 6, 10 ** 11 - 1, 10 ** 11, 10 ** 12 - 4, 10 ** 12 - 3, 10 ** 12 - 2, 10 ** 12 - 1):
                told = holds(dayset, turns * 10 ** 12 + rest)
                self.assertIs(told, 5 <= rest < 10 ** 11 or 10 ** 12 - 3 <= rest < 10 ** 12 - 1, rest)

    def test_40000_borders_and_runs(self):
        side = (10 ** 12, tuple(range(17, 17 + 40000 * 10 ** 7, 10 ** 7)), True)
        runs = tuple((k * 10 ** 9, k * 10 ** 9 + k + 1) for k in range(40000))
        dayset = (side, -1, runs, 40000 * 10 ** 9, side)
        self.assertIsNone(dayset_fault(dayset))
        for k in range(0, 40000, 7):
            self.assertIs(holds(dayset, k * 10 ** 9 - 1), False)
            self.assertIs(holds(dayset, k * 10 ** 9), True)
            self.assertIs(holds(dayset, k * 10 ** 9 + k), True)
            self.assertIs(holds(dayset, k * 10 ** 9 + k + 1), False)
            for base in (-10 ** 12, 41 * 10 ** 12):
                self.assertIs(holds(dayset, base + 16 + k * 10 ** 7), k % 2 == 0)
                self.assertIs(holds(dayset, base + 17 + k * 10 ** 7), k % 2 == 1)


class SingleTest(unittest.TestCase):

    def test_some_days(self):
        self.assertEqual(single([]), EMPTY)
        self.assertEqual(single([5]), (NONE, 5, ((5, 6),), 6, NONE))
        self.assertEqual(single([5, 6, 8]), (NONE, 5, ((5, 7), (8, 9)), 9, NONE))
        self.assertEqual(single([8, 6, 5, 6, 8, 5]), single([5, 6, 8]))
        self.assertEqual(single([-1, 0, 1]), (NONE, -1, ((-1, 2),), 2, NONE))
        far = single([10 ** 30, -10 ** 30])
        self.assertEqual(far, (NONE, -10 ** 30, ((-10 ** 30, 1 - 10 ** 30), (10 ** 30, 10 ** 30 + 1)), 10 ** 30 + 1, NONE))

    def test_lists_of_days(self):
        chance = random.Random(3)
        for _ in range(300):
            days = [chance.randint(-20, 20) for _ in range(chance.randint(1, 30))]
            before = list(days)
            told = single(days)
            self.assertEqual(days, before)
            lying = sorted(set(days))
            self.assertEqual(told, (NONE, lying[0], plain_runs(lying), lying[-1] + 1, NONE))
            self.assertIsNone(dayset_fault(told))
            self.assertEqual(days_from(told, -25, 26), lying)

    def test_1000_days(self):
        days = [7 ** 50 * k - 10 ** 40 for k in range(1000)]
        told = single(days[::-1])
        self.assertEqual(told[2], tuple((day, day + 1) for day in days))
        self.assertIsNone(dayset_fault(told))


class PeriodicTest(unittest.TestCase):

    def test_some_rests(self):
        self.assertEqual(periodic(7, []), EMPTY)
        self.assertEqual(periodic(1, [0]), ALL)
        self.assertEqual(periodic(1, [-5]), ALL)
        self.assertEqual(periodic(3, [0, 1, 2]), ALL)
        self.assertEqual(periodic(2, [0]), pure((2, (0, 1), False)))
        self.assertEqual(periodic(2, [1]), pure((2, (0, 1), True)))
        self.assertEqual(periodic(7, [6]), pure((7, (0, 6), True)))
        self.assertEqual(periodic(7, [0, 6]), pure((7, (1, 6), True)))
        self.assertEqual(periodic(7, [3, 2]), pure((7, (2, 4), False)))
        self.assertEqual(periodic(14, [1, 8]), pure((7, (1, 2), False)))
        self.assertEqual(periodic(6, [5, 1, 3]), periodic(2, [1]))
        self.assertEqual(periodic(10 ** 12, [10 ** 12 - 1]), pure((10 ** 12, (0, 10 ** 12 - 1), True)))
        self.assertEqual(periodic(10 ** 12, [5, 5 + 5 * 10 ** 11]), periodic(5 * 10 ** 11, [5]))

    def test_rests_that_are_no_remainders(self):
        self.assertEqual(periodic(7, [-1]), periodic(7, [6]))
        self.assertEqual(periodic(7, [7, 15, 10 ** 30, -10 ** 30]), periodic(7, sorted([0, 1, 10 ** 30 % 7, -10 ** 30 % 7])))
        self.assertEqual(periodic(7, [6, -1, 13]), periodic(7, [6]))

    def test_integer_by_integer(self):
        chance = random.Random(9)
        for _ in range(400):
            period = chance.randint(1, 13)
            rests = [chance.randint(-30, 30) for _ in range(chance.randint(0, 14))]
            before = list(rests)
            told = periodic(period, rests)
            self.assertEqual(rests, before)
            self.assertIsNone(dayset_fault(told))
            lying = [rest % period for rest in rests]
            self.assertEqual(days_from(told, -40, 41), [x for x in range(-40, 41) if x % period in lying])
            self.assertEqual(told, plain_normal(pure(side_of_rests(period, lying))))

    def test_1000_rests(self):
        rests = [10 ** 9 * k + k * k for k in range(1000)]
        told = periodic(10 ** 12, rests)
        self.assertEqual(told[0], (10 ** 12, tuple(sorted([*rests, *[rest + 1 for rest in rests]])), False))
        self.assertEqual(periodic(10 ** 12, [10 ** 9 * k for k in range(1000)]), periodic(10 ** 9, [0]))


def some_side(chance, most):
    period = chance.randint(1, most)
    many = 2 * chance.randint(0, period // 2)
    borders = tuple(sorted(chance.sample(range(period), many)))
    return (period, borders, chance.random() < 0.5)


def some_dayset(chance):
    marks = sorted(chance.sample(range(-25, 26), 2 * chance.randint(1, 8)))
    low, high = marks[0] - chance.randint(0, 3), marks[-1] + chance.randint(0, 3)
    runs = tuple(zip(marks[::2], marks[1::2]))
    if chance.random() < 0.2:
        runs = ()
    return (some_side(chance, 9), low, runs, high, some_side(chance, 9))


if __name__ == "__main__":
    unittest.main()
