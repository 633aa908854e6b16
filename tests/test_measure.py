"""Point 14: the measure of a list of daysets, and which lists are too large."""

import random
import unittest
from math import lcm

from everydue.daysets import ALL, EMPTY, normal, periodic, single
from everydue.errors import TooLarge
from everydue.joins import is_too_large, measure, meet, union, without
from everydue.questions import first_difference, is_in, meets
from tests.plain_sets import plain_in
from tests.some_sets import EACH, NOTHING, some_dayset


def plain_measure(daysets):
    """The measure by the words of point 14, integer by integer."""
    rows = [normal(dayset) for dayset in daysets]
    total = 0
    for place in (0, 4):
        common = lcm(*[row[place][0] for row in rows])
        total += sum(len(row[place][1]) * (common // row[place][0]) for row in rows)
    mixed = [row for row in rows if (row[1], row[2], row[3]) != (0, (), 0) or row[0] != row[4]]
    if mixed:
        window = range(min(row[1] for row in mixed), max(row[3] for row in mixed) + 1)
        total += sum(plain_in(row, x) != plain_in(row, x - 1) for row in rows for x in window)
    return total


def pure(side):
    return (side, 0, (), 0, side)


def with_borders(many, period):
    """A side with so many borders that is least: one step between them differs."""
    return (period, (*range(0, 2 * (many - 1), 2), 2 * many - 1), False)


def row_of_runs(many, begin=0):
    """A dayset of so many runs of one day, and so of twice as many borders."""
    return (NOTHING, begin, tuple((begin + 2 * k, begin + 2 * k + 1) for k in range(many)), begin + 2 * many - 1, NOTHING)


class MeasureTest(unittest.TestCase):

    def assert_large(self, one, two):
        """Asserts that all that ask for the measure of two daysets refuse them, in either order."""
        for rows in ([one, two], [two, one]):
            self.assertTrue(is_too_large(rows))
            for ask in (union, meet, without, is_in, meets, lambda a, b: first_difference(a, b, 0)):
                with self.assertRaises(TooLarge):
                    ask(*rows)

    def assert_not_large(self, one, two):
        for rows in ([one, two], [two, one]):
            self.assertFalse(is_too_large(rows))
            for ask in (union, meet, without, is_in, meets, lambda a, b: first_difference(a, b, 0)):
                ask(*rows)

    def test_against_the_words(self):
        chance = random.Random(141)
        for _ in range(400):
            daysets = [some_dayset(chance, 7, 12) for _ in range(chance.randint(1, 4))]
            self.assertEqual(measure(daysets), plain_measure(daysets), daysets)
            self.assertFalse(is_too_large(daysets))

    def test_lists_of_no_and_of_plain_sets(self):
        self.assertEqual(measure([]), 0)
        self.assertFalse(is_too_large([]))
        self.assertEqual(measure([EMPTY]), 0)
        self.assertEqual(measure([ALL, EMPTY]), 0)
        self.assertEqual(measure([single([5])]), 2)
        self.assertEqual(measure([single([5, 6, 7])]), 2)
        self.assertEqual(measure([periodic(7, [1, 4])]), 8)
        self.assertEqual(measure([(NOTHING, 3, (), 3, EACH)]), 1)
        self.assertEqual(measure([periodic(7, [1]), periodic(14, [3])]), 2 * (4 + 2))

    def test_pure_daysets_count_between_the_others(self):
        # From 0 to 20, both counted, the multiples of 5 have the borders 0, 1, 5, 6, 10, 11, 15, 16 and 20.
        mixed = (NOTHING, 0, ((0, 1), (19, 20)), 20, NOTHING)
        self.assertEqual(measure([mixed]), 4)
        self.assertEqual(measure([periodic(5, [0]), mixed]), 4 + 4 + 9)
        self.assertEqual(measure([periodic(5, [0]), periodic(5, [0]), mixed]), 8 + 4 + 18)
        # The middle of the one counts for the other, too.
        far = single([10 ** 30])
        self.assertEqual(measure([far, single([0])]), 4)
        self.assertEqual(measure([far, periodic(2, [0])]), 4 + 2 + 2)
        # 10 ** 30 is even; what lies between the two single days is counted without looking at it.
        many = measure([far, single([0]), periodic(2, [0])])
        self.assertEqual(many, 4 + 4 + 10 ** 30 + 2)

    def test_of_normal_forms(self):
        side, thrice = (4, (1, 3), False), (12, (1, 3, 5, 7, 9, 11), False)
        for dayset in ((side, 0, (), 0, side), (thrice, 3, (), 3, side), (side, -4, ((-3, -1),), 0, thrice)):
            self.assertEqual(measure([dayset]), 4)
            self.assertEqual(measure([dayset, single([2])]), 4 + 2 + 1)

    def test_one_dayset_at_the_bound(self):
        self.assertEqual(measure([row_of_runs(20000)]), 40000)
        self.assertFalse(is_too_large([row_of_runs(20000)]))
        self.assertTrue(is_too_large([row_of_runs(20001)]))
        side = with_borders(20000, 10 ** 6)
        self.assertEqual(measure([pure(side)]), 40000)
        self.assertFalse(is_too_large([pure(side)]))
        self.assertTrue(is_too_large([pure(with_borders(20002, 10 ** 6))]))
        # One border more than 40,000: a run that goes on for ever.
        self.assertEqual(measure([(NOTHING, 0, row_of_runs(20000)[2], 10 ** 9, EACH)]), 40001)
        self.assertTrue(is_too_large([(NOTHING, 0, row_of_runs(20000)[2], 10 ** 9, EACH)]))

    def test_two_daysets_at_the_bound(self):
        self.assert_not_large(row_of_runs(19999), single([70000]))
        self.assert_large(row_of_runs(19999), (NOTHING, 70000, ((70000, 70001),), 70002, EACH))
        self.assert_large(row_of_runs(20000), single([-5]))
        self.assert_not_large(row_of_runs(20000), EMPTY)
        self.assert_not_large(row_of_runs(20000), ALL)
        # 2 * 13333 + 2 * 6667 is 40,000.
        side = with_borders(13334, 10 ** 6)
        self.assert_not_large(pure(side), pure(with_borders(6666, 10 ** 6)))
        self.assert_large(pure(side), pure(with_borders(6668, 10 ** 6)))

    def test_least_common_multiples_make_borders(self):
        # Two sides with 2 borders, of periods without a common divisor.
        self.assertEqual(measure([periodic(9997, [3]), periodic(3, [0])]), 2 * (2 * 3 + 2 * 9997))
        self.assert_not_large(periodic(9997, [3]), periodic(3, [0]))
        self.assertEqual(measure([periodic(9998, [3]), periodic(3, [0])]), 2 * (2 * 3 + 2 * 9998))
        self.assert_large(periodic(9998, [3]), periodic(3, [0]))
        self.assert_large(periodic(9999, [3]), periodic(2, [0]))
        self.assert_not_large(periodic(9999, [3]), periodic(3, [0]))

    def test_also_where_the_answer_could_be_told_without(self):
        large = row_of_runs(20001)
        self.assert_large(large, EMPTY)
        self.assert_large(large, ALL)
        self.assert_large(large, large)
        self.assert_large(row_of_runs(10001), row_of_runs(10001))
        self.assert_not_large(row_of_runs(10000), row_of_runs(10000))

    def test_least_common_multiples_at_the_bound(self):
        self.assert_not_large(periodic(10 ** 12, [3]), EMPTY)
        self.assert_not_large(periodic(10 ** 12, [3]), periodic(2 * 10 ** 8, [3]))
        half = 10 ** 12 // 2
        self.assert_not_large(periodic(10 ** 12, [0]), periodic(half, [0]))
        large = [periodic(10 ** 12, [0]), periodic(half * 3, [0])]
        self.assertEqual(measure(large), 2 * (2 * 3 + 2 * 2))
        self.assert_large(*large)
        # These have 999999999999 * 10 ** 12 and 10 ** 12 + 1 as theirs.
        self.assert_large(periodic(10 ** 12, [0]), periodic(999999999999, [0]))
        self.assertTrue(is_too_large([periodic(73 * 137, [0]), periodic(99990001, [0])]))
        self.assert_not_large(periodic(999999999999, [0]), periodic(999999999999, [1]))

    def test_one_of_the_two_common_multiples_is_enough(self):
        left = (10 ** 12, (0, 1), False)
        right = (999999999999, (0, 1), False)
        one, two = (left, 0, (), 0, NOTHING), (NOTHING, 0, (), 0, left)
        self.assert_not_large(one, two)
        self.assert_not_large(one, (left, 5, (), 5, NOTHING))
        self.assert_large(one, (right, 5, (), 5, NOTHING))
        self.assert_large(two, (NOTHING, 5, (), 5, right))
        # The second one begins with day 0, which is a border of both.
        long = (NOTHING, 0, (), 0, (3 * 10 ** 12 // 2, (0, 1), False))
        self.assertEqual(measure([pure(left), long]), 2 + (2 * 3 + 2 * 2) + 2)
        self.assert_large(pure(left), long)

    def test_lists_of_three(self):
        rows = [row_of_runs(10000), row_of_runs(9999), single([-7])]
        self.assertEqual(measure(rows), 40000)
        self.assertFalse(is_too_large(rows))
        self.assertTrue(is_too_large([*rows[:2], (NOTHING, -7, (), -7, EACH), single([-7])]))
        self.assertEqual(measure([periodic(6, [0]), periodic(10, [0]), periodic(15, [0])]), 2 * 2 * (5 + 3 + 2))
        self.assertFalse(is_too_large([periodic(10 ** 4, [0]), periodic(10 ** 4, [1]), periodic(10 ** 4, [2])]))


if __name__ == "__main__":
    unittest.main()
