"""Points 9 to 11: least sides and normal daysets."""

import random
import unittest

from everydue.daysets import ALL, EMPTY, dayset_fault, holds, normal, periodic, single
from tests.plain_sets import EACH, NONE, plain_in, plain_in_side, plain_normal, plain_runs, side_of_rests


def some_set(chance):
    """A set as two rests of sides and what lies from low to high: (period, rests), low, days, high, (period, rests)."""
    sides = []
    for _ in range(2):
        period = chance.randint(1, 6)
        sides.append((period, [r for r in range(period) if chance.random() < 0.5]))
    if chance.random() < 0.3:
        sides[1] = sides[0]
    low = chance.randint(-12, 12)
    high = low + chance.randint(0, 12)
    if chance.random() < 0.3:
        days = [x for x in range(low, high) if x % sides[0][0] in sides[0][1]]
    else:
        days = [x for x in range(low, high) if chance.random() < 0.5]
    return sides[0], low, days, high, sides[1]


def is_in(told, x):
    """Whether an integer is in a set as some_set makes it."""
    left, low, days, high, right = told
    if x < low:
        return x % left[0] in left[1]
    if x >= high:
        return x % right[0] in right[1]
    return x in days


def written(told, times_left, wider_left, times_right, wider_right):
    """A dayset of a set, with its sides written out several times and its middle made wider."""
    left, low, _, high, right = told
    sides = []
    for (period, rests), times in ((left, times_left), (right, times_right)):
        sides.append(side_of_rests(period * times, [r for r in range(period * times) if r % period in rests]))
    low, high = low - wider_left, high + wider_right
    runs = plain_runs([x for x in range(low, high) if is_in(told, x)])
    return (sides[0], low, runs, high, sides[1])


class NormalTest(unittest.TestCase):

    def test_one_set_written_in_several_ways(self):
        chance = random.Random(11)
        for _ in range(300):
            told = some_set(chance)
            one = normal(written(told, 1, 0, 1, 0))
            self.assertEqual(one, plain_normal(written(told, 1, 0, 1, 0)))
            for _ in range(6):
                way = [chance.randint(1, 3), chance.randint(0, 15), chance.randint(1, 3), chance.randint(0, 15)]
                dayset = written(told, *way)
                self.assertIsNone(dayset_fault(dayset))
                self.assertEqual(normal(dayset), one, (told, way))

    def test_the_same_integers_are_in_a_normal_form(self):
        chance = random.Random(12)
        for _ in range(300):
            told = some_set(chance)
            dayset = normal(written(told, 2, 3, 3, 1))
            self.assertIsNone(dayset_fault(dayset))
            for x in range(-60, 61):
                self.assertIs(plain_in(dayset, x), is_in(told, x))
                self.assertIs(holds(dayset, x), is_in(told, x))

    def test_a_normal_dayset_is_its_own_normal_form(self):
        chance = random.Random(13)
        for _ in range(300):
            dayset = normal(written(some_set(chance), 1, 0, 1, 0))
            self.assertEqual(normal(dayset), dayset)
        for dayset in (EMPTY, ALL, single([3, 4, 9]), periodic(10 ** 12, [5, 6, 10 ** 12 - 1])):
            self.assertEqual(normal(dayset), dayset)

    def test_sets_that_differ_in_one_integer(self):
        chance = random.Random(14)
        for _ in range(300):
            told = some_set(chance)
            dayset = written(told, 2, 14, 1, 14)
            left, low, _, high, right = dayset
            turned = chance.randint(low, high - 1)
            days = [x for x in range(low, high) if is_in(told, x) != (x == turned)]
            other = (left, low, plain_runs(days), high, right)
            self.assertNotEqual(normal(other), normal(dayset), (told, turned))
            self.assertEqual(normal(other), plain_normal(other))

    def test_equal_just_if_the_same_integers_are_in(self):
        chance = random.Random(15)
        forms = {}
        for _ in range(2000):
            low = chance.randint(-2, 1)
            high = low + chance.randint(0, 2)
            sides = []
            for _ in range(2):
                period = chance.randint(1, 3)
                sides.append(side_of_rests(period, [r for r in range(period) if chance.random() < 0.5]))
            runs = plain_runs([x for x in range(low, high) if chance.random() < 0.5])
            dayset = (sides[0], low, runs, high, sides[1])
            window = tuple(plain_in(dayset, x) for x in range(-14, 15))
            forms.setdefault(window, []).append(normal(dayset))
        self.assertGreater(len(forms), 100)
        for dayset, *others in forms.values():
            for other in others:
                self.assertEqual(other, dayset)
        self.assertEqual(len({rows[0] for rows in forms.values()}), len(forms))


class SomeNormalFormsTest(unittest.TestCase):

    def test_sides_without_borders(self):
        for inside, told in ((False, EMPTY), (True, ALL)):
            for period in (1, 2, 7, 10 ** 12):
                side = (period, (), inside)
                self.assertEqual(normal((side, 0, (), 0, side)), told)
                self.assertEqual(normal((side, -9, (), -9, (1, (), inside))), told)
        self.assertEqual(normal((EACH, -9, ((-9, 5),), 5, (4, (), True))), ALL)
        self.assertEqual(normal((NONE, -9, (), 5, (4, (), False))), EMPTY)

    def test_sides_written_out(self):
        for times in (1, 2, 3, 5, 6):
            for inside in (False, True):
                borders = tuple(b + 5 * k for k in range(times) for b in (1, 2, 3, 4))
                side = (5 * times, borders, inside)
                self.assertEqual(normal((side, 3, (), 3, side)), pure((5, (1, 2, 3, 4), inside)))

    def test_an_odd_number_of_borders_is_no_period(self):
        # The borders repeat with 5, but what lies between them is in and out by turns.
        side = (10, (0, 5), False)
        self.assertEqual(normal((side, 0, (), 0, side))[0], side)
        side = (15, (1, 4, 6, 9, 11, 14), True)
        self.assertEqual(normal((side, 0, (), 0, side))[0], (5, (1, 4), True))
        side = (30, (0, 5, 10, 15, 20, 25), False)
        self.assertEqual(normal((side, 0, (), 0, side))[0], (10, (0, 5), False))
        side = (4, (0, 1, 2, 3), False)
        self.assertEqual(normal((side, 0, (), 0, side))[0], (2, (0, 1), False))
        side = (8, (0, 1, 4, 6), False)
        self.assertEqual(normal((side, 0, (), 0, side))[0], side)
        side = (8, (0, 2, 3, 4, 6, 7), True)
        self.assertEqual(normal((side, 0, (), 0, side))[0], side)

    def test_a_part_that_does_not_fill_the_period_is_no_period(self):
        # Between the borders lie 1, 2, 3, 4, 1, 2, 3, 4, 1 and 2 integers.
        side = (23, (0, 1, 3, 6, 10, 11, 13, 16, 20, 21), False)
        self.assertEqual(normal((side, 0, (), 0, side)), pure(side))
        side = (13, (0, 1, 3, 6, 10, 11), True)
        self.assertEqual(normal((side, 0, (), 0, side)), pure(side))

    def test_equal_sides_and_nothing_between(self):
        even = (2, (0, 1), False)
        self.assertEqual(normal((even, -4, ((-4, -3), (-2, -1), (0, 1)), 2, even)), (even, 0, (), 0, even))
        self.assertEqual(normal((even, 7, (), 7, even)), (even, 0, (), 0, even))
        # One integer more, and one less.
        self.assertEqual(normal((even, -4, ((-4, -1), (0, 1)), 2, even)), (even, -3, ((-3, -2),), -2, even))
        self.assertEqual(normal((even, -4, ((-2, -1), (0, 1)), 2, even)), (even, -4, (), -3, even))
        # Both: the middle goes from the first to behind the last one.
        self.assertEqual(normal((even, -5, ((-5, -3), (-2, -1)), 3, even)),
                         (even, -5, ((-5, -3), (-2, -1)), 3, even))

    def test_runs_that_go_into_a_side(self):
        self.assertEqual(normal((NONE, 0, ((2, 9),), 9, EACH)), (NONE, 2, (), 2, EACH))
        self.assertEqual(normal((EACH, 0, ((0, 5),), 9, NONE)), (EACH, 5, (), 5, NONE))
        self.assertEqual(normal((EACH, 0, ((0, 5), (7, 9)), 9, EACH)), (EACH, 5, (), 7, EACH))
        self.assertEqual(normal((NONE, 0, ((2, 3), (5, 9)), 9, EACH)), (NONE, 2, ((2, 3),), 5, EACH))
        self.assertEqual(normal((EACH, 0, ((0, 5), (7, 8)), 9, NONE)), (EACH, 5, ((7, 8),), 8, NONE))
        self.assertEqual(normal((NONE, 0, ((0, 1),), 1, NONE)), (NONE, 0, ((0, 1),), 1, NONE))
        self.assertEqual(normal((EACH, 0, (), 1, EACH)), (EACH, 0, (), 1, EACH))

    def test_low_goes_on_into_the_right_side(self):
        # Multiples of 2 up to 11, and of 4 from 12 on: 14 is the first one that lacks.
        left, right = (2, (0, 1), False), (4, (0, 1), False)
        for high in range(11, 15):
            runs = plain_runs([x for x in range(0, high) if x % 2 == 0 and x != 14])
            self.assertEqual(normal((left, 0, runs, high, right)), (left, 14, (), 14, right))
        self.assertEqual(normal((left, 15, (), 15, right)), (left, 18, (), 18, right))
        self.assertEqual(normal((NONE, 3, (), 3, (10 ** 12, (0, 1), False))),
                         (NONE, 10 ** 12, (), 10 ** 12, (10 ** 12, (0, 1), False)))

    def test_high_lies_not_ahead_of_low(self):
        # What is in agrees with the right side from 2 on, and with the left one up to 3.
        left, right = (4, (0, 1), False), (2, (0, 1), False)
        self.assertEqual(normal((left, 2, (), 2, right)), (left, 2, (), 2, right))
        self.assertEqual(normal((left, 3, (), 3, right)), (left, 6, (), 6, right))
        self.assertEqual(normal((left, 1, ((4, 5),), 5, right)), (left, 6, (), 6, right))
        self.assertEqual(normal((left, 1, (), 5, right)), (left, 4, (), 5, right))
        self.assertEqual(normal((left, 1, ((1, 2), (4, 5)), 5, right)), (left, 1, ((1, 2),), 3, right))
        self.assertEqual(normal((left, 1, ((1, 3), (4, 5)), 5, right)), (left, 1, ((1, 2),), 2, right))

    def test_inside(self):
        # The same side at other places: all but the multiples of 3, and the multiples of 3.
        self.assertEqual(normal(((6, (0, 1, 3, 4), True), 0, (), 0, (3, (0, 1), True))), periodic(3, [1, 2]))
        self.assertEqual(normal(((6, (0, 1, 3, 4), False), 0, (), 0, (9, (0, 1, 3, 4, 6, 7), False))), periodic(3, [0]))

    def test_far_away(self):
        for far in (10 ** 30, -10 ** 30):
            self.assertEqual(normal((NONE, far - 5, ((far, far + 1),), far + 9, NONE)), single([far]))
            even = (2, (0, 1), False)
            self.assertEqual(normal((even, far, (), far, even)), (even, 0, (), 0, even))
            self.assertEqual(normal((even, far, (), far + 3, even)), (even, far, (), far + 3, even))
            self.assertEqual(normal((even, -10 ** 60, (), far + 3, even)), (even, -10 ** 60, (), far + 3, even))

    def test_nothing_that_is_passed_is_changed(self):
        left, right = (14, (1, 3, 8, 10), False), (2, (), True)
        dayset = (left, -10, ((-6, -4), (3, 9)), 30, right)
        normal(dayset)
        self.assertEqual(dayset, ((14, (1, 3, 8, 10), False), -10, ((-6, -4), (3, 9)), 30, (2, (), True)))
        told = normal(dayset)
        for value in (told, told[0], told[0][1], told[2], *told[2], told[4]):
            self.assertIs(type(value), tuple)


class GreatDaysetsTest(unittest.TestCase):

    def test_40000_borders_that_repeat(self):
        for period in (40000, 4 * 10 ** 11):
            step = period // 40000
            side = (period, tuple(k * step for k in range(40000)), True)
            self.assertEqual(normal((side, 9, (), 9, side)), pure((2 * step, (0, step), True)))
        step = 10 ** 7
        borders = [k * step for k in range(40000)]
        borders[39999] += 1
        side = (40000 * step, tuple(borders), False)
        self.assertEqual(normal((side, 9, (), 9, side)), pure(side))

    def test_40000_borders_that_do_not(self):
        chance = random.Random(16)
        sides = []
        for period in (10 ** 12, 10 ** 12 - 1):
            sides.append((period, tuple(sorted(chance.sample(range(period), 40000))), chance.random() < 0.5))
        left, right = sides
        self.assertEqual(normal((left, 5, (), 5, left)), pure(left))
        told = normal((left, 5, (), 5, right))
        self.assertEqual((told[0], told[4]), (left, right))
        self.assertEqual(told[1], told[3])
        first = told[1]
        self.assertNotEqual(plain_in_side(left, first), plain_in_side(right, first))

    def test_long_sides_that_agree_for_long(self):
        # The right side is the left one but for its last two borders.
        borders = tuple(range(0, 80000, 2))
        left = (80000 * 10 ** 6, borders, False)
        right = (80000 * 10 ** 6, (*borders[:-1], borders[-1] + 3), False)
        told = normal((left, -7, (), -7, right))
        self.assertEqual(told, (left, 80000 - 2, (), 80000 - 2, right))
        # A short side that agrees with a long one up to its end.
        four = (4, (0, 2), False)
        long = (80000 + 4, tuple(range(0, 80000, 2)), False)
        self.assertEqual(normal((four, 0, (), 0, long)), (four, 80000, (), 80000, long))
        self.assertEqual(normal((four, -7, (), -7, (80000, long[1], False))), pure(four))

    def test_40000_runs(self):
        runs = tuple((4 * k, 4 * k + 2) for k in range(40000))
        four = (4, (0, 2), False)
        self.assertEqual(normal((four, -1, runs, 160000, four)), pure(four))
        self.assertEqual(normal((four, -1, runs, 160000, NONE)), (four, 160000, (), 160000, NONE))
        self.assertEqual(normal((NONE, -1, runs, 160000, four)), (NONE, 0, (), 0, four))
        self.assertEqual(normal((NONE, -1, runs, 160000, NONE)), (NONE, 0, runs, 159998, NONE))
        lacking = (*runs[:20000], *runs[20001:])
        self.assertEqual(normal((four, -1, lacking, 160000, four)), (four, 80000, (), 80002, four))


def pure(side):
    return (side, 0, (), 0, side)


if __name__ == "__main__":
    unittest.main()
