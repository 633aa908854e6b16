"""Points 33, 40 to 42 and 44: minutesets, against trying moment by moment."""

import random
import unittest
from fractions import Fraction

from everydue.daysets import ALL, EMPTY, normal, periodic, single
from everydue.errors import TooLarge
from everydue.minutes import ALWAYS, NEVER, minuteset_fault, moment_count, moment_holds, moment_last, moment_next
from everydue.minutes import moment_nth, moments_between, moments_first_difference, moments_in, moments_least
from everydue.minutes import moments_meet, moments_meet_ever, moments_moved, moments_other, moments_union
from everydue.minutes import moments_without, normal_minutes, share
from tests.odd_values import deep
from tests.some_sets import EACH, NOTHING, calendar_with, moments_within, nearest, plain_moment, some_minuteset


class MinutesetCase(unittest.TestCase):

    def setUp(self):
        self.chance = random.Random(401)

    def some(self, many):
        minutes = self.chance.randint(1, 6)
        rows = [some_minuteset(self.chance, minutes) for _ in range(many)]
        window = range(-30 * minutes, 30 * minutes)
        return minutes, calendar_with(minutes), rows, window

    def assert_told(self, minutes, told, members, window):
        calendar = calendar_with(minutes)
        self.assertIsNone(minuteset_fault(calendar, told))
        self.assertTrue(all(normal(dayset) == dayset for _, dayset in told))
        self.assertTrue(all(one[1] != two[1] for one, two in zip(told, told[1:])))
        self.assertEqual(normal_minutes(calendar, told), told)
        self.assertEqual(moments_within(minutes, told, window), {u for u in members if u in window})


class MinutesTest(MinutesetCase):

    def test_never_and_always(self):
        self.assertEqual(NEVER, ((0, EMPTY),))
        self.assertEqual(ALWAYS, ((0, ALL),))

    def test_normal_minutes(self):
        for _ in range(150):
            minutes, calendar, (one,), window = self.some(1)
            self.assert_told(minutes, normal_minutes(calendar, one), moments_within(minutes, one, window), window)

    def test_normal_minutes_of_equal_neighbours_and_others(self):
        calendar = calendar_with(5)
        side, twice = (4, (1, 3), False), (8, (1, 3, 5, 7), False)
        one, two = (side, 0, (), 0, side), (twice, 5, (), 5, side)
        self.assertEqual(normal_minutes(calendar, ((0, one), (2, two), (3, one), (4, EMPTY))), ((0, one), (4, EMPTY)))
        self.assertEqual(normal_minutes(calendar, ((0, EMPTY), (4, ((7, (), False), 3, (), 9, NOTHING)))), NEVER)
        self.assertEqual(normal_minutes(calendar, tuple((k, ALL) for k in range(5))), ALWAYS)

    def test_two_minutesets(self):
        for _ in range(150):
            minutes, calendar, (one, two), window = self.some(2)
            first, second = moments_within(minutes, one, window), moments_within(minutes, two, window)
            self.assert_told(minutes, moments_union(calendar, one, two), first | second, window)
            self.assert_told(minutes, moments_meet(calendar, one, two), first & second, window)
            self.assert_told(minutes, moments_without(calendar, one, two), first - second, window)
            self.assert_told(minutes, moments_other(calendar, one), set(window) - first, window)
            self.assertEqual(moments_union(calendar, one, one), normal_minutes(calendar, one))
            self.assertEqual(moments_union(calendar, one, moments_other(calendar, one)), ALWAYS)
            self.assertEqual(moments_meet(calendar, one, moments_other(calendar, one)), NEVER)

    def test_least(self):
        for _ in range(80):
            minutes, calendar, rows, window = self.some(self.chance.randint(1, 4))
            sets = [moments_within(minutes, row, window) for row in rows]
            for number in range(1, len(rows) + 1):
                members = {u for u in window if sum(u in told for told in sets) >= number}
                self.assert_told(minutes, moments_least(calendar, number, rows), members, window)

    def test_least_of_twelve(self):
        calendar = calendar_with(60)
        rows = [((0, EMPTY), (3 * k, periodic(2, [k % 2])), (3 * k + 20, EMPTY)) for k in range(1, 13)]
        for number in (1, 2, 5, 12):
            told = moments_least(calendar, number, rows)
            for u in range(-60, 120):
                many = len([row for row in rows if plain_moment(60, row, u)])
                self.assertIs(moment_holds(calendar, told, u), many >= number)

    def test_moved(self):
        for _ in range(150):
            minutes, calendar, (one,), window = self.some(1)
            by = self.chance.choice([0, 1, -1, minutes, -minutes, self.chance.randint(-20, 20), 7 * minutes + 1])
            told = moments_moved(calendar, one, by)
            members = {u for u in window if plain_moment(minutes, one, u - by)}
            self.assert_told(minutes, told, members, window)
            self.assertEqual(moments_moved(calendar, told, -by), normal_minutes(calendar, one))
            self.assertEqual(moments_moved(calendar, moments_moved(calendar, one, 10 ** 30), -10 ** 30),
                             normal_minutes(calendar, one))

    def test_between(self):
        for minutes in (1, 2, 3, 6):
            calendar = calendar_with(minutes)
            window = range(-20, 21)
            ends = [None, -7, -6, -1, 0, 1, 5, 6, 11, 12]
            for first in ends:
                for last in ends:
                    members = {u for u in window if (first is None or u >= first) and (last is None or u <= last)}
                    self.assert_told(minutes, moments_between(calendar, first, last), members, window)
        self.assertEqual(moments_between(calendar_with(7), None, None), ALWAYS)
        self.assertEqual(moments_between(calendar_with(7), 5, 4), NEVER)
        self.assertEqual(moments_between(calendar_with(7), 10 ** 30, -10 ** 30), NEVER)
        self.assertEqual(moments_between(calendar_with(1440), 1440 * 7 + 5, 1440 * 7 + 9),
                         ((0, EMPTY), (5, single([7])), (10, EMPTY)))
        self.assertEqual(moments_between(calendar_with(1440), 0, 1439), ((0, single([0])),))

    def test_nothing_that_is_passed_is_changed(self):
        calendar = calendar_with(5)
        rows = [((0, EMPTY), (2, single([3]))), ((0, ALL),)]
        moments_least(calendar, 1, rows)
        self.assertEqual(rows, [((0, EMPTY), (2, single([3]))), ((0, ALL),)])
        told = moments_union(calendar, *rows)
        for value in (told, told[0], moments_moved(calendar, rows[0], 3), moments_between(calendar, 3, 4)[0]):
            self.assertIs(type(value), tuple)


class MomentQuestionsTest(MinutesetCase):

    def test_questions(self):
        for _ in range(200):
            minutes, calendar, (one,), window = self.some(1)
            row = sorted(moments_within(minutes, one, window))
            for _ in range(3):
                x = self.chance.randint(-9 * minutes, 9 * minutes)
                behind, ahead = [u for u in row if u >= x], [u for u in row if u <= x]
                self.assertIs(moment_holds(calendar, one, x), x in row)
                self.assertEqual(moment_next(calendar, one, x), behind[0] if behind else None)
                self.assertEqual(moment_last(calendar, one, x), ahead[-1] if ahead else None)
                end = x + self.chance.randint(-5, 12 * minutes)
                self.assertEqual(moment_count(calendar, one, x, end), len([u for u in behind if u < end]))
                number = self.chance.randint(1, 20)
                if number <= len(behind):
                    self.assertEqual(moment_nth(calendar, one, x, number), behind[number - 1])
                elif all(normal(dayset)[4] == NOTHING for _, dayset in one):
                    self.assertIsNone(moment_nth(calendar, one, x, number))

    def test_two(self):
        for _ in range(200):
            minutes, calendar, (one, two), window = self.some(2)
            if self.chance.random() < 0.4:
                two = moments_union(calendar, one, two)
            first, second = moments_within(minutes, one, window), moments_within(minutes, two, window)
            x = self.chance.randint(-9 * minutes, 9 * minutes)
            self.assertEqual(moments_first_difference(calendar, one, two, x), nearest(first ^ second, x))
            self.assertIs(moments_in(calendar, one, two), first <= second)
            self.assertIs(moments_meet_ever(calendar, one, two), bool(first & second))

    def test_far_away(self):
        calendar = calendar_with(1440)
        noons = ((0, EMPTY), (720, periodic(7, [2])), (780, EMPTY))
        far = 7 * 1440 * 10 ** 30
        self.assertEqual(moment_next(calendar, noons, far), far + 2 * 1440 + 720)
        self.assertEqual(moment_last(calendar, noons, far), far - 5 * 1440 + 779)
        self.assertEqual(moment_count(calendar, noons, -far, far), 120 * 10 ** 30)
        self.assertEqual(moment_nth(calendar, noons, -far, 120 * 10 ** 30), far - 5 * 1440 + 779)
        self.assertEqual(moment_nth(calendar, noons, 0, 10 ** 30), ((10 ** 30 - 1) // 60 * 7 + 2) * 1440 + 720 + 39)
        self.assertEqual(moment_nth(calendar, ALWAYS, -5, 10 ** 30), 10 ** 30 - 6)
        self.assertTrue(moment_holds(calendar, noons, far + 2 * 1440 + 779))
        self.assertFalse(moment_holds(calendar, noons, far + 2 * 1440 + 780))

    def test_none(self):
        calendar = calendar_with(10)
        for x in (0, 10 ** 30, -10 ** 30):
            self.assertIsNone(moment_next(calendar, NEVER, x))
            self.assertIsNone(moment_last(calendar, NEVER, x))
            self.assertIsNone(moment_nth(calendar, NEVER, x, 1))
            self.assertEqual(moment_count(calendar, NEVER, x, x + 10 ** 30), 0)
        few = ((0, EMPTY), (3, single([0, 4])), (5, EMPTY))
        self.assertEqual(moment_nth(calendar, few, 4, 3), 44)
        self.assertIsNone(moment_nth(calendar, few, 4, 4))
        self.assertIsNone(moment_nth(calendar, few, 4, 10 ** 30))
        self.assertIsNone(moment_next(calendar, few, 45))
        self.assertIsNone(moment_last(calendar, few, 2))
        self.assertEqual(moment_count(calendar, ALWAYS, 9, 9), 0)
        self.assertEqual(moment_count(calendar, ALWAYS, 9, -9), 0)

    def test_two_moments_just_as_near(self):
        calendar = calendar_with(10)
        one = ((0, EMPTY), (3, single([0])), (4, EMPTY), (7, single([0])), (8, EMPTY))
        self.assertEqual(moments_first_difference(calendar, one, NEVER, 5), 7)
        self.assertEqual(moments_first_difference(calendar, one, NEVER, 4), 3)
        self.assertIsNone(moments_first_difference(calendar, one, one, 4))

    def test_share(self):
        for _ in range(150):
            minutes, calendar, (one,), _ = self.some(1)
            told = share(calendar, one)
            whole = range(-90 * minutes, -30 * minutes), range(30 * minutes, 90 * minutes)
            for (over, under), window in zip(told, whole):
                part = Fraction(len(moments_within(minutes, one, window)), len(window))
                self.assertEqual((over, under), (part.numerator, part.denominator))

    def test_share_in_lowest_terms(self):
        calendar = calendar_with(1440)
        self.assertEqual(share(calendar, NEVER), ((0, 1), (0, 1)))
        self.assertEqual(share(calendar, ALWAYS), ((1, 1), (1, 1)))
        one = ((0, EMPTY), (360, (NOTHING, 3, (), 3, periodic(10 ** 12, [0])[0])), (1080, (EACH, 9, (), 9, NOTHING)))
        self.assertEqual(share(calendar, one), ((1, 4), (1, 2 * 10 ** 12)))
        two = ((0, periodic(999999999989, [0])), (720, periodic(10 ** 12, [0])))
        part = Fraction(1, 2 * 999999999989) + Fraction(1, 2 * 10 ** 12)
        self.assertEqual(share(calendar, two), ((part.numerator, part.denominator),) * 2)


class TooManyMinutesTest(unittest.TestCase):

    def asks(self, calendar, one, two):
        yield lambda: moments_union(calendar, one, two)
        yield lambda: moments_meet(calendar, one, two)
        yield lambda: moments_without(calendar, one, two)
        yield lambda: moments_least(calendar, 2, [one, two])
        yield lambda: moments_first_difference(calendar, one, two, 0)
        yield lambda: moments_in(calendar, one, two)
        yield lambda: moments_meet_ever(calendar, one, two)

    def assert_large(self, calendar, one, two):
        for ask in [*self.asks(calendar, one, two), *self.asks(calendar, two, one)]:
            with self.assertRaises(TooLarge):
                ask()

    def assert_not_large(self, calendar, one, two):
        for ask in [*self.asks(calendar, one, two), *self.asks(calendar, two, one)]:
            ask()

    def test_400_different_minutes(self):
        calendar = calendar_with(2000)
        by_turns = [EMPTY, ALL]
        one = tuple((k, by_turns[1 - k % 2]) for k in range(200))
        two = tuple((0 if k == 0 else 300 + k, by_turns[k % 2]) for k in range(201))
        three = tuple((0 if k == 0 else 300 + k, by_turns[k % 2]) for k in range(202))
        self.assert_not_large(calendar, one, two)
        self.assert_large(calendar, one, three)
        self.assertEqual(len(moments_union(calendar, one, two)), 400)
        # The minutes are those of the normal forms.
        same = (*two, (600, two[-1][1]))
        self.assert_not_large(calendar, one, same)
        many = tuple((k, by_turns[k % 2]) for k in range(401))
        self.assert_large(calendar, many, NEVER)
        self.assert_not_large(calendar, many[:400], many[:399])
        with self.assertRaises(TooLarge):
            moments_least(calendar, 1, [many])
        self.assertEqual(len(moments_other(calendar, many)), 401)
        self.assertEqual(len(moments_moved(calendar, many, 1000)), 401)

    def test_measures(self):
        calendar = calendar_with(10)
        row = [(NOTHING, 0, tuple((2 * k, 2 * k + 1) for k in range(many)), 2 * many - 1, NOTHING)
               for many in (10000, 10001)]
        one = ((0, row[0]), (5, EMPTY))
        self.assert_not_large(calendar, one, ((0, EMPTY), (3, row[0])))
        self.assert_large(calendar, one, ((0, EMPTY), (3, row[1])))
        # All daysets of one minuteset count together.
        both = ((0, row[0]), (5, row[1]))
        self.assert_large(calendar, both, NEVER)
        self.assert_not_large(calendar, ((0, row[0]), (5, EMPTY), (6, row[0])), ALWAYS)
        periods = ((0, periodic(10 ** 12, [0])), (1, periodic(5 * 10 ** 11, [0])))
        self.assert_not_large(calendar, periods, NEVER)
        self.assert_large(calendar, periods, ((0, EMPTY), (2, periodic(15 * 10 ** 11, [0]))))


class MinutesetFaultTest(unittest.TestCase):

    def test_no_fault(self):
        calendar = calendar_with(5)
        for value in (NEVER, ALWAYS, ((0, EMPTY), (4, EMPTY)), tuple((k, ALL) for k in range(5))):
            self.assertIsNone(minuteset_fault(calendar, value))

    def test_pairs(self):
        for value in (None, True, 0, "", "ab", (), [], [(0, EMPTY)], (0,), (0, EMPTY), ((0, EMPTY), None), ((0,),),
                      ((0, EMPTY, 1),), ([0, EMPTY],), ((0, list(EMPTY)),), ((0, EMPTY[:4]),), ((0, (*EMPTY, 0)),),
                      ((0, None),), ((0, EMPTY), (1, "abcde")), ((0, EMPTY), (9, 7)), (("x", EMPTY), (9, 7)),
                      deep(tuple, 20000), deep(list, 20000), ((0, EMPTY), deep(tuple, 20000))):
            self.assertEqual(minuteset_fault(calendar_with(5), value), "pairs")

    def test_minutes(self):
        wrong = ((1, 2, 3), ("a",) * 5, (None,) * 5)
        for marks in ((1,), (-1, 0), (0, 0), (0, 5), (0, 3, 2), (0, 10 ** 30), (False,), (True,), (None,), ("0",),
                      ((),), ([],), (0, "1"), (0, 1.5), (0, None), (0, True), (deep(tuple, 20000),), (0, deep(list, 20000))):
            self.assertEqual(minuteset_fault(calendar_with(5), tuple((mark, ALL) for mark in marks)), "minutes")
            self.assertEqual(minuteset_fault(calendar_with(5), tuple((mark, wrong[1]) for mark in marks)), "minutes")
        self.assertEqual(minuteset_fault(calendar_with(1), ((0, ALL), (1, EMPTY))), "minutes")
        self.assertIsNone(minuteset_fault(calendar_with(2), ((0, ALL), (1, EMPTY))))

    def test_daysets(self):
        for dayset in ((None,) * 5, (NOTHING, 3, (), 2, NOTHING), ((0, (), False), 0, (), 0, NOTHING),
                       (NOTHING, 0, ((1, 1),), 2, NOTHING), (NOTHING, True, (), 2, NOTHING)):
            self.assertEqual(minuteset_fault(calendar_with(5), ((0, dayset),)), "daysets")
            self.assertEqual(minuteset_fault(calendar_with(5), ((0, ALL), (3, dayset))), "daysets")
            self.assertEqual(minuteset_fault(calendar_with(5), ((0, dayset), (3, ALL), (4, EMPTY))), "daysets")


if __name__ == "__main__":
    unittest.main()
