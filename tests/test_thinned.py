"""Point 16: each k-th integer of a dayset from a day on."""

import random
import unittest
from math import gcd

from everydue.daysets import ALL, EMPTY, holds, normal, periodic, single
from everydue.errors import TooLarge
from everydue.joins import moved, thinned, union
from tests.some_sets import EACH, NOTHING, some_dayset, within


def plain_thinned(members, begin, step, rest):
    """What is told by point 16 of some integers from begin on."""
    row = sorted(x for x in members if x >= begin)
    return {x for index, x in enumerate(row) if index % step == rest}


def pure(side):
    return (side, 0, (), 0, side)


class ThinnedTest(unittest.TestCase):

    def assert_large(self, *arguments):
        with self.assertRaises(TooLarge):
            thinned(*arguments)

    def test_against_counting(self):
        chance = random.Random(161)
        window = range(-60, 120)
        for _ in range(400):
            one = some_dayset(chance)
            begin, step = chance.randint(-40, 40), chance.randint(1, 7)
            for rest in range(step):
                told = thinned(one, begin, step, rest)
                self.assertEqual(normal(told), told)
                members = plain_thinned(within(one, window), begin, step, rest)
                self.assertEqual({x for x in window if holds(told, x)}, members, (one, begin, step, rest))

    def test_all_rests_together_make_the_dayset_from_begin_on(self):
        chance = random.Random(162)
        for step in (1, 2, 10, 333, 1000):
            one = some_dayset(chance)
            begin = chance.randint(-30, 30)
            together = EMPTY
            for rest in range(step):
                together = union(together, thinned(one, begin, step, rest))
            self.assertEqual(together, thinned(one, begin, 1, 0))

    def test_begins_far_away(self):
        side = (7, (1, 2, 4, 6), False)
        for far in (10 ** 30 * 7, -10 ** 30 * 7):
            # 1, 4, 5, 8, 11, 12: from far on each second one.
            one = moved(pure(side), 0)
            if far > 0:
                self.assertEqual(thinned(one, far, 3, 0), (NOTHING, far + 1, (), far + 1, (7, (1, 2), False)))
                self.assertEqual(thinned(one, far, 3, 1), (NOTHING, far + 4, (), far + 4, (7, (4, 5), False)))
            else:
                self.assert_large(one, far, 3, 0)
        told = thinned((NOTHING, 3, (), 3, EACH), -10 ** 30, 2, 1)
        self.assertEqual(told, (NOTHING, 4, (), 4, (2, (0, 1), False)))

    def test_begins_inside_of_the_middle_and_around_it(self):
        one = (NOTHING, 0, ((0, 3), (5, 6), (8, 10)), 10, NOTHING)
        self.assertEqual(thinned(one, 0, 2, 0), single([0, 2, 8]))
        self.assertEqual(thinned(one, 1, 2, 0), single([1, 5, 9]))
        self.assertEqual(thinned(one, 1, 2, 1), single([2, 8]))
        self.assertEqual(thinned(one, -5, 4, 3), single([5]))
        self.assertEqual(thinned(one, 9, 5, 0), single([9]))
        self.assertEqual(thinned(one, 9, 5, 1), EMPTY)
        self.assertEqual(thinned(one, 10, 1, 0), EMPTY)
        self.assertEqual(thinned(EMPTY, 4, 1000, 0), EMPTY)
        self.assertEqual(thinned(ALL, 4, 1, 0), (NOTHING, 4, (), 4, EACH))

    def test_the_new_period(self):
        # Of 3 integers in a week each 6th one: 2 weeks. Each 4th one: 4 weeks.
        days = periodic(7, [0, 2, 3])
        self.assertEqual(thinned(days, 0, 6, 1), (NOTHING, 2, (), 2, (14, (2, 3), False)))
        self.assertEqual(thinned(days, 0, 4, 0)[4], (28, (0, 1, 9, 10, 17, 18), False))
        self.assertEqual(thinned(days, 0, 3, 2), (NOTHING, 3, (), 3, (7, (3, 4), False)))
        for step in (999, 1000):
            told = thinned(days, 1, step, step - 1)
            self.assertEqual(told[4][0], 7 * step // gcd(3, step))

    def test_20000_integers_ahead_of_the_right_side(self):
        one = (NOTHING, 0, ((0, 20001),), 20001, NOTHING)
        self.assert_large(one, 0, 1, 0)
        self.assert_large(one, -10 ** 30, 7, 3)
        self.assertEqual(thinned(one, 1, 20, 19)[3], 20001)
        self.assertEqual(len(thinned(one, 1, 1000, 0)[2]), 20)
        one = (EACH, 5, (), 5, NOTHING)
        self.assertEqual(thinned(one, -19995, 1, 0), (NOTHING, -19995, ((-19995, 5),), 5, NOTHING))
        self.assert_large(one, -19996, 1, 0)
        # What is pure has its high at 0.
        self.assertEqual(thinned(ALL, -20000, 1, 0), (NOTHING, -20000, (), -20000, EACH))
        self.assert_large(ALL, -20001, 1, 0)
        self.assert_large(((3, (), True), 7, (), 7, EACH), -20001, 1, 0)
        self.assertEqual(thinned(periodic(5, [0]), -100000, 1, 0)[1], -100000)
        self.assert_large(periodic(5, [0]), -100005, 1, 0)

    def test_20000_integers_in_the_new_period(self):
        # m times k, divided by the divisor: 20 times 1000 divided by 20 is 1000; 1000 times 20 is none; 19 times 1000.
        self.assertEqual(thinned(periodic(100, range(0, 40, 2)), 0, 1000, 0)[4][0], 100 * 50)
        for many, step, large in ((20, 999, False), (21, 1000, True), (19, 1000, False), (20000, 1000, False),
                                  (20001, 1, True), (20000, 1, False), (10001, 2, True), (10000, 3, True),
                                  (6666, 3, False), (6667, 3, True), (40000, 1000, True)):
            one = pure((10 ** 6, (0, many), False))
            if large:
                self.assert_large(one, 0, step, 0)
            else:
                turns = step // gcd(many, step)
                self.assertLessEqual(many * turns, 20000)
                self.assertEqual(thinned(one, 0, step, 0)[4][0], 10 ** 6 * turns)

    def test_a_new_period_of_10_to_the_12(self):
        self.assertEqual(thinned(periodic(10 ** 9, [4]), 0, 1000, 2)[4], (10 ** 12, (2 * 10 ** 9 + 4, 2 * 10 ** 9 + 5), False))
        self.assert_large(periodic(10 ** 9 + 1, [4]), 0, 1000, 2)
        self.assert_large(periodic(10 ** 12, [4]), 0, 2, 0)
        self.assertEqual(thinned(periodic(10 ** 12, [4, 6]), 0, 2, 0)[4], (10 ** 12, (4, 5), False))

    def test_an_empty_right_side(self):
        left = (10 ** 12, (0, 30000), False)
        self.assertEqual(thinned((left, 50, (), 50, NOTHING), 40, 1000, 3), single([43]))
        self.assertEqual(thinned((left, 50, (), 50, (10 ** 12, (), False)), 50, 1000, 0), EMPTY)

    def test_daysets_that_are_not_normal(self):
        side, twice = (4, (1, 3), False), (8, (1, 3, 5, 7), False)
        for form in ((twice, 5, (), 5, side), (side, -8, ((-7, -5), (-3, -1), (1, 3)), 4, twice)):
            self.assertEqual(thinned(form, -8, 3, 1), thinned(pure(side), -8, 3, 1))
        # Written with a middle that has more than 20,000 integers: pure all the same.
        self.assertEqual(thinned((EACH, 0, ((0, 30000),), 30000, EACH), 0, 2, 0), thinned(ALL, 0, 2, 0))


if __name__ == "__main__":
    unittest.main()
