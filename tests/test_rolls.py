"""Points 27, 28 and 30, and the rows of on, back, near and of place in point 29."""

import random
import unittest

from everydue.calendars import GREGORIAN, calendar_fault, cycle_of, day_of, first_day, period_of
from everydue.daysets import ALL, EMPTY, holds, normal, periodic, single
from everydue.errors import TooLarge
from everydue.joins import moved, other
from everydue.questions import is_in
from everydue.rolls import first_days, placed, rolled
from everydue.rules import rule_days
from tests.plain_calendar import LITTLE, UNITS
from tests.plain_rules import PlainCalendar, places_in
from tests.some_sets import EACH, NOTHING, some_dayset, within

REACH = 150


def plain_on(days, ahead, marks):
    """The days of marks to which days are rolled on: on until the next mark; ahead tells of a day ahead of all."""
    found = set()
    waiting = ahead
    for x in range(-REACH, REACH):
        waiting = waiting or x in days
        if x in marks:
            if waiting:
                found.add(x)
            waiting = False
    return found


def plain_near(days, marks):
    """The days of marks that are the nearest ones to some of the days, the later one of two."""
    return {min(marks, key=lambda d: (abs(d - x), -d)) for x in days} if marks else set()


class RolledTest(unittest.TestCase):

    def test_against_trying(self):
        chance = random.Random(271)
        window = range(-60, 60)
        for _ in range(300):
            one, two = some_dayset(chance, 5, 8), some_dayset(chance, 5, 8)
            days, marks = within(one, range(-REACH, REACH)), within(two, range(-REACH, REACH))
            expected = {
                "on": plain_on(days, False, marks),
                "back": {-d for d in plain_on({-x for x in days}, False, {-d for d in marks})},
                "near": plain_near(days, marks),
            }
            for way, members in expected.items():
                told = rolled(one, two, way)
                self.assertEqual(normal(told), told)
                self.assertEqual({x for x in window if holds(told, x)}, members & set(window), (one, two, way))

    def test_days_of_the_second_alone(self):
        chance = random.Random(272)
        for _ in range(60):
            one, two = some_dayset(chance, 5, 8), some_dayset(chance, 5, 8)
            for way in ("on", "back", "near"):
                self.assertTrue(is_in(rolled(one, two, way), two))
                self.assertEqual(rolled(two, two, way), normal(two))
                self.assertEqual(rolled(EMPTY, two, way), EMPTY)
                self.assertEqual(rolled(one, EMPTY, way), EMPTY)
                self.assertEqual(rolled(one, ALL, way), normal(one))

    def test_ends(self):
        marks = single([10, 20, 30])
        self.assertEqual(rolled(single([-10 ** 30]), marks, "on"), single([10]))
        self.assertEqual(rolled(single([-10 ** 30]), marks, "back"), EMPTY)
        self.assertEqual(rolled(single([-10 ** 30]), marks, "near"), single([10]))
        self.assertEqual(rolled(single([10 ** 30]), marks, "on"), EMPTY)
        self.assertEqual(rolled(single([10 ** 30]), marks, "back"), single([30]))
        self.assertEqual(rolled(single([10 ** 30]), marks, "near"), single([30]))
        for x, way, told in ((9, "on", [10]), (9, "near", [10]), (9, "back", []), (31, "on", []), (31, "near", [30]), (31, "back", [30]),
                             (10, "on", [10]), (10, "back", [10]), (30, "on", [30]), (30, "near", [30])):
            self.assertEqual(rolled(single([x]), marks, way), single(told), (x, way))
        left, right = periodic(7, [0])[0], periodic(5, [2])[0]
        self.assertEqual(rolled((left, 0, (), 0, NOTHING), marks, "on"), single([10]))
        self.assertEqual(rolled((NOTHING, 40, (), 40, right), marks, "on"), EMPTY)
        self.assertEqual(rolled((NOTHING, 40, (), 40, right), marks, "near"), single([30]))
        self.assertEqual(rolled((left, 0, (), 0, NOTHING), marks, "back"), EMPTY)

    def test_ties(self):
        for two, days in ((single([10, 20]), {14: 10, 15: 20, 16: 20, 10: 10, 20: 20}),
                          (single([10, 21]), {15: 10, 16: 21}), (single([10, 11]), {10: 10, 11: 11}),
                          (single([-11, 10]), {-1: -11, 0: 10}), (single([-12, 10]), {-1: 10, -2: -12})):
            for x, near in days.items():
                self.assertEqual(rolled(single([x]), two, "near"), single([near]), (two, x))

    def test_long_gaps(self):
        once = periodic(10 ** 12, [5])
        self.assertEqual(rolled(periodic(10 ** 12, [6]), once, "on"), once)
        self.assertEqual(rolled(periodic(10 ** 12, [6]), once, "back"), once)
        twice = periodic(10 ** 12, [5, 10 ** 11])
        self.assertEqual(rolled(periodic(10 ** 12, [6]), twice, "on"), periodic(10 ** 12, [10 ** 11]))
        self.assertEqual(rolled(periodic(10 ** 12, [6]), twice, "back"), once)
        self.assertEqual(rolled(single([10 ** 30 + 6]), twice, "near"), single([10 ** 30 + 5]))
        self.assertEqual(rolled(single([10 ** 30 + 4]), twice, "near"), single([10 ** 30 + 5]))
        # A day that lies in the same gap as the seam.
        one = (NOTHING, 7, (), 7, periodic(10 ** 12, [6])[0])
        self.assertEqual(rolled(one, once, "on"), (NOTHING, 2 * 10 ** 12 + 5, (), 2 * 10 ** 12 + 5, once[0]))
        self.assertEqual(rolled(one, once, "back"), (NOTHING, 10 ** 12 + 5, (), 10 ** 12 + 5, once[0]))

    def test_workdays(self):
        workdays = rule_days(GREGORIAN, ("day", 1, 0, (("weekdays", (0, 1, 2, 3, 4)),), (), None, None, None))
        saturday = day_of(GREGORIAN, 2026, 11, 21)
        for day, on, back, near in ((saturday, 2, -1, -1), (saturday + 1, 1, -2, 1), (saturday - 1, 0, 0, 0)):
            self.assertEqual(rolled(single([day]), workdays, "on"), single([day + on]))
            self.assertEqual(rolled(single([day]), workdays, "back"), single([day + back]))
            self.assertEqual(rolled(single([day]), workdays, "near"), single([day + near]))

    def test_too_large(self):
        row = (NOTHING, 0, tuple((2 * k, 2 * k + 1) for k in range(10000)), 19999, NOTHING)
        more = (NOTHING, 0, tuple((2 * k, 2 * k + 1) for k in range(10001)), 20001, NOTHING)
        for way in ("on", "back", "near"):
            self.assertEqual(rolled(row, row, way), row)
            for one, two in ((row, more), (more, row)):
                with self.assertRaises(TooLarge):
                    rolled(one, two, way)
            with self.assertRaises(TooLarge):
                rolled(EMPTY, (NOTHING, 0, tuple((2 * k, 2 * k + 1) for k in range(20001)), 40001, NOTHING), way)
            with self.assertRaises(TooLarge):
                rolled(periodic(10 ** 12, [0]), periodic(15 * 10 ** 11, [0]), way)


class PlacedTest(unittest.TestCase):

    def test_against_the_words(self):
        chance = random.Random(281)
        calendars = [calendar for calendar in LITTLE if calendar_fault(calendar) is None and cycle_of(calendar)[1] < 3000]
        plain = {calendar: PlainCalendar(calendar, 1200) for calendar in calendars}
        window = range(-500, 500)
        for _ in range(200):
            calendar = chance.choice(calendars)
            one = some_dayset(chance, 5, 20)
            unit = chance.choice(UNITS)
            places = tuple(chance.sample([-5, -4, -3, -2, -1, 1, 2, 3, 4, 5], chance.randint(0, 4)))
            members = set()
            for row in plain[calendar].periods[unit].values():
                told = places_in([sorted(within(one, row))])
                members.update(x for x in told if any(place in places for place in told[x]))
            made = placed(calendar, one, unit, places)
            self.assertEqual(normal(made), made)
            self.assertEqual({x for x in window if holds(made, x)}, members & set(window), (calendar, one, unit, places))

    def test_first_days(self):
        for calendar in LITTLE:
            if calendar_fault(calendar) is None and cycle_of(calendar)[1] < 10 ** 5:
                plain = PlainCalendar(calendar, 400)
                for unit in UNITS:
                    made = first_days(calendar, unit)
                    begins = {row[0] for row in plain.periods[unit].values()}
                    self.assertEqual(normal(made), made)
                    self.assertEqual({x for x in range(-300, 300) if holds(made, x)}, begins & set(range(-300, 300)))
        self.assertEqual(first_days(GREGORIAN, "day"), ALL)
        self.assertEqual(first_days(GREGORIAN, "week"), periodic(7, [2]))
        for unit, many in (("month", 4800), ("year", 400)):
            self.assertEqual(len(first_days(GREGORIAN, unit)[0][1]), 2 * many)
            for period in (-10 ** 20, 0, 24316, 10 ** 20):
                day = first_day(GREGORIAN, unit, period)
                self.assertTrue(holds(first_days(GREGORIAN, unit), day))
                self.assertFalse(holds(first_days(GREGORIAN, unit), day + 1))

    def test_by_day(self):
        one = single([3, 4, 9])
        for places, told in (((1,), one), ((-1,), one), ((-1, 5), one), ((), EMPTY), ((2, -2), EMPTY)):
            self.assertEqual(placed(GREGORIAN, one, "day", places), told)

    def test_periods_with_fewer_days(self):
        fridays = rule_days(GREGORIAN, ("day", 1, 0, (("weekdays", (4,)),), (), None, None, None))
        fifth = placed(GREGORIAN, fridays, "month", (5,))
        self.assertEqual(fifth, placed(GREGORIAN, fridays, "month", (5, 6, -6)))
        begin = day_of(GREGORIAN, 2026, 1, 1)
        self.assertEqual([period_of(GREGORIAN, "month", x) % 12 + 1 for x in range(begin, begin + 365) if holds(fifth, x)],
                         [1, 5, 7, 10])
        both = placed(GREGORIAN, fridays, "month", (5, -5))
        self.assertEqual(len(both[0][1]), 2 * len(fifth[0][1]))

    def test_far_away(self):
        far = day_of(GREGORIAN, 10 ** 20, 5, 7)
        one = single([far, far + 1, far + 30])
        self.assertEqual(placed(GREGORIAN, one, "month", (1,)), single([far, far + 30]))
        self.assertEqual(placed(GREGORIAN, one, "month", (2,)), single([far + 1]))
        self.assertEqual(placed(GREGORIAN, one, "year", (-1,)), single([far + 30]))
        self.assertEqual(placed(GREGORIAN, moved(one, -2 * far), "year", (1,)), single([-far]))

    def test_too_many_periods_in_what_repeats(self):
        # 4800 months, 400 years in a great cycle of 146,097 days: eight of them have 38,400 months, nine 43,200.
        for period, unit, large in ((8, "month", False), (10, "month", True), (100, "year", False), (101, "year", True),
                                    (40000, "week", False), (40001, "week", True), (7 * 40000, "week", False),
                                    (7 * 40001, "week", True), (16, "month", True)):
            one = periodic(period, [3])
            for dayset in (one, (one[0], 5, (), 5, NOTHING), (EACH, 5, (), 5, one[0])):
                if large:
                    with self.assertRaises(TooLarge):
                        placed(GREGORIAN, dayset, unit, (1,))
                else:
                    placed(GREGORIAN, dayset, unit, (1,))
            placed(GREGORIAN, one, "day", (1,))

    def test_a_common_multiple_above_10_to_the_12(self):
        for unit in ("week", "month", "year"):
            with self.assertRaises(TooLarge):
                placed(GREGORIAN, periodic(10 ** 12, [0]), unit, (1,))
        self.assertEqual(placed(GREGORIAN, periodic(10 ** 12, [0]), "day", (1,)), periodic(10 ** 12, [0]))

    def test_too_many_periods_between_the_sides(self):
        for unit, length in (("week", 7), ("month", 31), ("year", 366)):
            begin = first_day(GREGORIAN, unit, 5)
            end = first_day(GREGORIAN, unit, 5 + 39999)
            one = (NOTHING, begin + 3, ((begin + 3, end + 1),), end + 1, NOTHING)
            told = placed(GREGORIAN, one, unit, (1,))
            self.assertEqual(len(told[2]), 40000)
            behind = first_day(GREGORIAN, unit, 5 + 40000)
            large = (NOTHING, begin + 3, ((begin + 3, behind),), behind, NOTHING)
            with self.assertRaises(TooLarge):
                placed(GREGORIAN, large, unit, (1,))
            self.assertEqual(placed(GREGORIAN, large, "day", (1,)), large)
        far = single([0, 10 ** 30])
        with self.assertRaises(TooLarge):
            placed(GREGORIAN, far, "month", (1,))
        self.assertEqual(placed(GREGORIAN, other(other(single([10 ** 30]))), "month", (-1,)), single([10 ** 30]))

    def test_first_days_too_large(self):
        calendar = ((2,), 1, 1, ((200, True), (101, False)), 1, 0, 10)
        self.assertEqual(len(first_days(calendar, "year")[0][1]), 40400)
        calendar = ((2,), 1, 1, ((400, True), (101, False)), 1, 0, 10)
        self.assertEqual(cycle_of(calendar)[0], 40400)
        for unit in ("month", "year"):
            with self.assertRaises(TooLarge):
                first_days(calendar, unit)
        self.assertEqual(first_days(calendar, "day"), ALL)


if __name__ == "__main__":
    unittest.main()
