"""Points 43, 45 and 46: minutesets made wider, room, and how far two minutesets are apart."""

import random
import unittest

from everydue.daysets import ALL, EMPTY, periodic, single
from everydue.errors import TooLarge
from everydue.joins import measure
from everydue.minutes import ALWAYS, NEVER, apart, moments_between, moments_other, room, widened
from tests.some_sets import NOTHING, calendar_with, moments_within, nearest, some_minuteset
from tests.test_minutes import MinutesetCase


class WidenedTest(MinutesetCase):

    def test_against_trying(self):
        chance = random.Random(431)
        for _ in range(200):
            minutes = chance.randint(1, 6)
            calendar, one = calendar_with(minutes), some_minuteset(chance, minutes)
            window = range(-14 * minutes, 14 * minutes)
            members = moments_within(minutes, one, range(-30 * minutes, 30 * minutes))
            back, on = chance.randint(0, 4 * minutes), chance.choice([0, 1, minutes, chance.randint(0, 4 * minutes)])
            wide = {u for u in window if any(v in members for v in range(u - on, u + back + 1))}
            self.assert_told(minutes, widened(calendar, one, back, on), wide, window)
            free = {u for u in window if all(v in members for v in range(u, u + back + 1))}
            self.assert_told(minutes, room(calendar, one, back + 1), free, window)

    def test_far_away(self):
        calendar = calendar_with(1440)
        far = 10 ** 30 * 1440
        for at in (far, -far):
            one = moments_between(calendar, at + 600, at + 600)
            self.assertEqual(widened(calendar, one, 700, 900), moments_between(calendar, at - 100, at + 1500))
            self.assertEqual(room(calendar, moments_between(calendar, at, at + 99), 100), moments_between(calendar, at, at))
            self.assertEqual(room(calendar, moments_between(calendar, at, at + 99), 101), NEVER)

    def test_by_nothing(self):
        calendar = calendar_with(10)
        one = ((0, periodic(3, [1])), (2, EMPTY), (5, EMPTY))
        self.assertEqual(widened(calendar, one, 0, 0), ((0, periodic(3, [1])), (2, EMPTY)))
        self.assertEqual(room(calendar, one, 1), ((0, periodic(3, [1])), (2, EMPTY)))
        for told in (NEVER, ALWAYS):
            self.assertEqual(widened(calendar, told, 90, 110), told)
            self.assertEqual(room(calendar, told, 200), told)

    def test_over_whole_days(self):
        calendar = calendar_with(10)
        one = ((0, EMPTY), (4, periodic(7, [0])), (5, EMPTY))
        self.assertEqual(widened(calendar, one, 34, 35), ALWAYS)
        self.assertEqual(widened(calendar, one, 34, 34), ((0, ALL), (9, periodic(7, [0, 1, 2, 4, 5, 6])))[:2])
        self.assertEqual(widened(calendar, one, 4, 5), ((0, periodic(7, [0])),))

    def test_20_days(self):
        for minutes in (1, 10, 2000):
            calendar = calendar_with(minutes)
            one = moments_between(calendar, 0, 0)
            for back in (0, 1, 7 * minutes, 20 * minutes):
                told = widened(calendar, one, back, 20 * minutes - back)
                self.assertEqual(told, moments_between(calendar, -back, 20 * minutes - back))
                with self.assertRaises(TooLarge):
                    widened(calendar, one, back, 20 * minutes - back + 1)
            with self.assertRaises(TooLarge):
                widened(calendar, NEVER, 10 ** 30, 0)
            self.assertEqual(room(calendar, NEVER, 20 * minutes + 1), NEVER)
            with self.assertRaises(TooLarge):
                room(calendar, NEVER, 20 * minutes + 2)

    def row(self, borders):
        return (NOTHING, 0, tuple((2 * k, 2 * k + 1) for k in range(borders // 2)), borders - 1, NOTHING)

    def test_measure_times_n(self):
        calendar = calendar_with(10)
        for days in (0, 1, 3, 18):
            borders = 40000 // (2 + days) // 2 * 2
            for back in (0, 10 * days, 5 * days):
                for more in (0, 9):
                    one = ((0, self.row(borders)), (3, EMPTY))
                    on = 10 * days - back + more
                    self.assertEqual(measure([self.row(borders)]), borders)
                    widened(calendar, one, back, on)
                    room(calendar, moments_other(calendar, one), back + on + 1)
                    large = ((0, self.row(borders + 2)), (3, EMPTY))
                    with self.assertRaises(TooLarge):
                        widened(calendar, large, back, on)
                    with self.assertRaises(TooLarge):
                        room(calendar, moments_other(calendar, large), back + on + 1)
        # 13 times 3077 is 40,001, 13 times 3076 is not: a dayset with an odd number of borders goes on for ever.
        for borders, large in ((3076, False), (3077, True)):
            row = self.row(2 * (borders // 2))
            if large:
                row = (*row[:3], row[3] + 5, (1, (), True))
            self.assertEqual(measure([row]), borders)
            one = ((0, row), (3, EMPTY))
            if large:
                with self.assertRaises(TooLarge):
                    widened(calendar, one, 110, 0)
            else:
                widened(calendar, one, 110, 0)
        # Just 40,000, and one whole day more.
        one = ((0, self.row(20000)), (3, EMPTY))
        widened(calendar, one, 5, 4)
        with self.assertRaises(TooLarge):
            widened(calendar, one, 5, 5)

    def test_common_multiples(self):
        calendar = calendar_with(10)
        one = ((0, periodic(10 ** 12, [0])), (1, periodic(5 * 10 ** 11, [0])))
        widened(calendar, one, 5, 5)
        two = (*one, (2, periodic(15 * 10 ** 11, [0])))
        with self.assertRaises(TooLarge):
            widened(calendar, two, 0, 0)

    def test_400_pairs(self):
        calendar = calendar_with(2000)
        # 200 of 5 minutes, each 8 minutes behind the last one: 400 pairs, and each minute more makes the gaps shorter.
        one = tuple((8 * k + 5 * late, (EMPTY, ALL)[1 - late]) for k in range(200) for late in (0, 1))
        self.assertEqual(len(widened(calendar, one, 0, 1)), 400)
        # Moved to the middle of the day there are 401.
        two = ((0, EMPTY), *[(mark + 3, dayset) for mark, dayset in one])
        self.assertEqual(len(two), 401)
        with self.assertRaises(TooLarge):
            widened(calendar, two, 0, 1)
        self.assertEqual(widened(calendar, two, 3, 0), ((0, ALL), (1600, EMPTY)))
        self.assertEqual(len(widened(calendar, two[:-1], 1, 0)), 400)
        # What goes on over the end of the day makes pairs at the beginning.
        even = periodic(2, [0])
        three = ((0, EMPTY), *[pair for k in range(199) for pair in ((10 + 4 * k, even), (12 + 4 * k, EMPTY))])
        self.assertEqual(len(widened(calendar, three, 1, 0)), 399)
        four = (*three, (1999, even))
        self.assertEqual(len(widened(calendar, four, 1, 0)), 400)
        with self.assertRaises(TooLarge):
            widened(calendar, four, 0, 1)
        with self.assertRaises(TooLarge):
            room(calendar, moments_other(calendar, ((0, even), (1, EMPTY), *four[1:-1])), 2)

    def test_minutesets_that_are_not_normal(self):
        calendar = calendar_with(10)
        many = ((0, EMPTY), *[(k, single([3])) for k in range(2, 6)], (6, EMPTY))
        self.assertEqual(widened(calendar, many, 1, 2), ((0, EMPTY), (1, single([3])), (8, EMPTY)))
        self.assertEqual(room(calendar, many, 3), ((0, EMPTY), (2, single([3])), (4, EMPTY)))
        large = tuple((k, EMPTY) for k in range(450))
        self.assertEqual(widened(calendar_with(450), large, 1, 2), NEVER)


class ApartTest(unittest.TestCase):

    def test_against_trying(self):
        chance = random.Random(461)
        found = 0
        for _ in range(300):
            minutes = chance.randint(1, 6)
            calendar = calendar_with(minutes)
            one, two = some_minuteset(chance, minutes), some_minuteset(chance, minutes)
            if chance.random() < 0.5:
                one = ((0, single([chance.randint(-3, 3)])),)
            window = range(-25 * minutes, 25 * minutes)
            first, second = moments_within(minutes, one, window), moments_within(minutes, two, window)
            k, x = chance.randint(1, 3 * minutes), chance.randint(-6 * minutes, 6 * minutes)
            near = {u for u in first if any(v in second for v in range(u - k + 1, u + k))}
            told = apart(calendar, one, two, k, x)
            if not near:
                self.assertIsNone(told)
            else:
                found += 1
                self.assertEqual(told, (nearest(near, x), nearest(second, nearest(near, x))))
        self.assertGreater(found, 100)

    def test_equal_distances(self):
        calendar = calendar_with(100)
        one = moments_between(calendar, 1000, 1000)
        two = tuple(sorted([(0, EMPTY), (10, single([10])), (11, EMPTY), (90, single([9])), (91, EMPTY)]))
        self.assertEqual(apart(calendar, one, two, 11, 0), (1000, 1010))
        self.assertIsNone(apart(calendar, one, two, 10, 0))
        self.assertEqual(apart(calendar, two, one, 11, 1000), (1010, 1000))
        self.assertEqual(apart(calendar, two, one, 11, 999), (990, 1000))
        self.assertEqual(apart(calendar, one, one, 1, -10 ** 30), (1000, 1000))

    def test_too_large(self):
        calendar = calendar_with(10)
        one = moments_between(calendar, 0, 0)
        self.assertEqual(apart(calendar, one, one, 101, 0), (0, 0))
        with self.assertRaises(TooLarge):
            apart(calendar, one, one, 102, 0)
        with self.assertRaises(TooLarge):
            apart(calendar, NEVER, NEVER, 102, 0)
        row = (NOTHING, 0, tuple((2 * k, 2 * k + 1) for k in range(10000)), 19999, NOTHING)
        # Widening alone is not too large, meeting is.
        widened(calendar, ((0, row),), 0, 0)
        with self.assertRaises(TooLarge):
            apart(calendar, ((0, row), (1, single([7]))), ((0, row),), 1, 0)
        self.assertEqual(apart(calendar, ((0, row),), ((0, row),), 1, 5), (5, 5))


if __name__ == "__main__":
    unittest.main()
