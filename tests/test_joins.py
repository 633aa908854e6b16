"""Points 11 and 15: daysets made of daysets, against their day by day meaning."""

import random
import unittest

from everydue.daysets import ALL, EMPTY, dayset_fault, holds, normal, periodic, single
from everydue.joins import meet, mirrored, moved, other, union, without
from tests.plain_sets import plain_in, plain_normal
from tests.some_sets import EACH, NOTHING, some_dayset, within

WINDOW = range(-70, 71)


class JoinsTest(unittest.TestCase):

    def assert_holds(self, told, members, window=WINDOW, why=None):
        self.assertIsNone(dayset_fault(told))
        self.assertEqual(normal(told), told, why)
        self.assertEqual({x for x in window if holds(told, x)}, members & set(window), why)

    def test_two_daysets_day_by_day(self):
        chance = random.Random(151)
        for _ in range(400):
            one, two = some_dayset(chance), some_dayset(chance)
            first, second = within(one, WINDOW), within(two, WINDOW)
            self.assert_holds(union(one, two), first | second, why=(one, two))
            self.assert_holds(meet(one, two), first & second, why=(one, two))
            self.assert_holds(without(one, two), first - second, why=(one, two))
            self.assert_holds(other(one), set(WINDOW) - first, why=one)

    def test_many_periods_away(self):
        chance = random.Random(152)
        for _ in range(200):
            one, two = some_dayset(chance), some_dayset(chance)
            for far in (-(60 ** 9) * 7, 10 ** 30 * 60 * 7):
                window = range(far, far + 40)
                first, second = within(one, window), within(two, window)
                self.assert_holds(union(one, two), first | second, window)
                self.assert_holds(meet(one, two), first & second, window)
                self.assert_holds(without(one, two), first - second, window)
                self.assert_holds(other(one), set(window) - first, window)

    def test_moved_and_mirrored_day_by_day(self):
        chance = random.Random(153)
        for _ in range(400):
            one = some_dayset(chance)
            days = chance.choice([0, 1, -1, 6, -12, chance.randint(-40, 40), chance.randint(-10 ** 20, 10 ** 20)])
            told = moved(one, days)
            self.assertEqual(normal(told), told)
            self.assertTrue(all(holds(told, x + days) == plain_in(one, x) for x in WINDOW), (one, days))
            told = mirrored(one)
            self.assertEqual(normal(told), told)
            self.assertTrue(all(holds(told, -x) == plain_in(one, x) for x in WINDOW), one)

    def test_equal_sets_by_different_ways(self):
        chance = random.Random(154)
        for _ in range(200):
            one, two, three = [some_dayset(chance, 4) for _ in range(3)]
            self.assertEqual(union(one, two), union(two, one))
            self.assertEqual(meet(one, two), other(union(other(one), other(two))))
            self.assertEqual(without(one, two), meet(one, other(two)))
            self.assertEqual(union(one, meet(two, three)), meet(union(one, two), union(one, three)))
            self.assertEqual(union(one, one), normal(one))
            self.assertEqual(union(one, other(one)), ALL)
            self.assertEqual(meet(one, other(one)), EMPTY)
            self.assertEqual(without(one, one), EMPTY)
            self.assertEqual(other(other(one)), normal(one))
            self.assertEqual(mirrored(mirrored(one)), normal(one))
            self.assertEqual(moved(moved(one, 17), -17), normal(one))
            self.assertEqual(mirrored(moved(one, 5)), moved(mirrored(one), -5))
            self.assertEqual(union(moved(one, 9), moved(two, 9)), moved(union(one, two), 9))

    def test_against_the_plain_normal_form(self):
        chance = random.Random(155)
        for _ in range(200):
            one = some_dayset(chance, 4, 5)
            self.assertEqual(other(one), plain_normal(turned_out(one)))
            self.assertEqual(moved(one, 0), plain_normal(one))

    def test_daysets_that_are_not_normal(self):
        # All days with the remainder 1 or 2, divided by 4, written in several ways.
        side, twice = (4, (1, 3), False), (8, (1, 3, 5, 7), False)
        forms = [
            (side, 0, (), 0, side),
            (twice, 5, (), 5, side),
            (side, -8, ((-7, -5), (-3, -1), (1, 3)), 4, twice),
            (twice, 2, ((2, 3),), 3, twice),
        ]
        for one in forms:
            for two in forms:
                self.assertEqual(union(one, two), forms[0])
                self.assertEqual(meet(one, two), forms[0])
                self.assertEqual(without(one, two), EMPTY)
            self.assertEqual(other(one), ((4, (1, 3), True), 0, (), 0, (4, (1, 3), True)))
            self.assertEqual(moved(one, 4), forms[0])
            self.assertEqual(mirrored(one), ((4, (2, 0)[::-1], True), 0, (), 0, (4, (0, 2), True)))

    def test_some_sets(self):
        self.assertEqual(union(single([3, 4]), single([5, 9])), single([3, 4, 5, 9]))
        self.assertEqual(union(periodic(2, [0]), periodic(2, [1])), ALL)
        self.assertEqual(meet(periodic(4, [1]), periodic(6, [3])), periodic(12, [9]))
        self.assertEqual(meet(periodic(4, [1]), periodic(6, [2])), EMPTY)
        self.assertEqual(without(ALL, single([7])), other(single([7])))
        self.assertEqual(other(single([7])), (EACH, 7, (), 8, EACH))
        self.assertEqual(moved(single([7]), -10 ** 40), single([7 - 10 ** 40]))
        self.assertEqual(mirrored((NOTHING, 3, (), 3, EACH)), (EACH, -2, (), -2, NOTHING))
        self.assertEqual(moved(periodic(7, [2, 3]), 6), periodic(7, [1, 2]))
        self.assertEqual(mirrored(periodic(7, [2, 3])), periodic(7, [4, 5]))
        for told in (EMPTY, ALL):
            self.assertEqual(moved(told, 10 ** 9), told)
            self.assertEqual(mirrored(told), told)
        self.assertEqual((other(EMPTY), other(ALL)), (ALL, EMPTY))

    def test_nothing_that_is_passed_is_changed(self):
        one = ((14, (1, 3, 8, 10), False), -10, ((-6, -4), (3, 9)), 30, (2, (), True))
        two = ((4, (0, 2), True), 5, (), 5, (6, (1, 2), False))
        for told in (union(one, two), meet(one, two), without(one, two), other(one), moved(one, 3), mirrored(one)):
            for value in (told, told[0], told[0][1], told[2], *told[2], told[4]):
                self.assertIs(type(value), tuple)
            self.assertIs(type(told[0][2]), bool)
        self.assertEqual(one, ((14, (1, 3, 8, 10), False), -10, ((-6, -4), (3, 9)), 30, (2, (), True)))
        self.assertEqual(two, ((4, (0, 2), True), 5, (), 5, (6, (1, 2), False)))


def turned_out(dayset):
    """The dayset of what is not in a dayset, written with runs of single integers made one."""
    left, low, _, high, right = dayset
    runs = []
    for x in range(low, high):
        if not plain_in(dayset, x):
            if runs and runs[-1][1] == x:
                runs[-1] = (runs[-1][0], x + 1)
            else:
                runs.append((x, x + 1))
    return ((left[0], left[1], not left[2]), low, tuple(runs), high, (right[0], right[1], not right[2]))


if __name__ == "__main__":
    unittest.main()
