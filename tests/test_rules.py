"""Points 21, 22, 24 and 31: the days that rules tell, day by day."""

import random
import unittest

from everydue.calendars import GREGORIAN, calendar_fault, cycle_of, date_of, day_of, week_of, weekday_of
from everydue.daysets import EMPTY, holds, normal, periodic, single
from everydue.errors import TooLarge
from everydue.joins import union
from everydue.rules import rule_days, rule_fault, tells
from everydue.sides import runs_of_days
from tests.plain_calendar import ALL_CALENDARS
from tests.plain_rules import PlainCalendar, some_rule
from tests.some_sets import NOTHING

CALENDARS = [calendar for calendar in ALL_CALENDARS if calendar_fault(calendar) is None]


class RulesByChanceTest(unittest.TestCase):

    def test_day_by_day(self):
        chance = random.Random(221)
        told = 0
        plain = {calendar: PlainCalendar(calendar, 1900) for calendar in CALENDARS}
        for _ in range(400):
            calendar = chance.choice(CALENDARS)
            rule = some_rule(chance, calendar, 300)
            self.assertIsNone(rule_fault(rule))
            days = plain[calendar].told(rule, -800, 800)
            made = rule_days(calendar, rule)
            self.assertEqual(normal(made), made)
            self.assertEqual({x for x in range(-800, 800) if holds(made, x)}, days, (calendar, rule))
            tried = [*chance.sample(range(-800, 800), 25), *chance.sample(sorted(days), min(len(days), 8))]
            for day in tried:
                self.assertIs(tells(calendar, rule, day), day in days, (calendar, rule, day))
            told += len(days)
            self.try_far_away(chance, calendar, rule, made)
        self.assertGreater(told, 20000)

    def try_far_away(self, chance, calendar, rule, made):
        """What tells says and what rule_days holds are one, many great cycles away too."""
        cycle = cycle_of(calendar)[1]
        begins = [cycle, -cycle, cycle * 10 ** 20, -cycle * 10 ** 20]
        if rule[7] is not None:
            begins = begins[:2]
        for begin in chance.sample(begins, 2):
            for day in range(begin, begin + 6):
                self.assertIs(tells(calendar, rule, day), holds(made, day), (calendar, rule, day))

    def test_what_counts_repeats(self):
        chance = random.Random(222)
        for _ in range(60):
            calendar = chance.choice(CALENDARS)
            rule = (*some_rule(chance, calendar, 300)[:5], None, None, None)
            made = rule_days(calendar, rule)
            self.assertEqual((made[1:4], made[0]), ((0, (), 0), made[4]))
            self.assertEqual(cycle_of(calendar)[1] * rule[1] % made[0][0], 0)


def rule(unit, interval=1, anchor=0, lists=(), places=(), since=None, until=None, number=None):
    return (unit, interval, anchor, lists, places, since, until, number)


class SomeRulesTest(unittest.TestCase):

    def told(self, made, first, end):
        return [date_of(GREGORIAN, x) for x in range(first, end) if holds(made, x)]

    def test_the_13th_that_is_a_friday(self):
        made = rule_days(GREGORIAN, rule("month", lists=(("days", (13,)), ("weekdays", (4,)))))
        begin = day_of(GREGORIAN, 2026, 1, 1)
        self.assertEqual(self.told(made, begin, begin + 365), [(2026, 2, 13), (2026, 3, 13), (2026, 11, 13)])
        self.assertEqual(made[0][0], 146097)
        self.assertEqual(len(made[0][1]), 2 * 688)

    def test_the_29th_of_february(self):
        made = rule_days(GREGORIAN, rule("year", lists=(("months", (2,)), ("days", (29,)))))
        for year in (-400, -4, 0, 4, 96, 100, 1900, 2000, 2024, 2026, 2100, 2400):
            day = day_of(GREGORIAN, year, 2, 28) + 1
            long = year % 4 == 0 and (year % 100 != 0 or year % 400 == 0)
            self.assertIs(holds(made, day), long)
            self.assertIs(tells(GREGORIAN, rule("year", lists=(("months", (2,)), ("days", (29,)))), day), long)
        self.assertEqual(len(made[0][1]), 2 * 97)

    def test_weeks_of_years_with_53_weeks(self):
        one = rule("week", lists=(("weeks", (53,)),))
        made = rule_days(GREGORIAN, one)
        self.assertEqual(len(made[0][1]), 2 * 71)
        for year, many in ((2020, 53), (2021, 52), (2026, 53), (2032, 53), (2033, 52)):
            day = day_of(GREGORIAN, year, 12, 28)
            self.assertEqual(week_of(GREGORIAN, day)[1], many)
            self.assertIs(holds(made, day), many == 53)
            self.assertIs(tells(GREGORIAN, one, day), many == 53)
        both = rule_days(GREGORIAN, rule("year", lists=(("weeks", (1, -1)),)))
        begin = day_of(GREGORIAN, 2020, 12, 28)
        self.assertEqual([x - begin for x in range(begin - 20, begin + 20) if holds(both, x)], list(range(14)))

    def test_last_workday_of_each_month(self):
        one = rule("month", lists=(("weekdays", (0, 1, 2, 3, 4)),), places=(-1,), since=day_of(GREGORIAN, 2026, 1, 1), number=5)
        self.assertEqual(self.told(rule_days(GREGORIAN, one), 739000, 742000),
                         [(2026, 1, 30), (2026, 2, 27), (2026, 3, 31), (2026, 4, 30), (2026, 5, 29)])

    def test_each_third_month_and_each_third_week(self):
        anchor = day_of(GREGORIAN, 2026, 2, 14)
        made = rule_days(GREGORIAN, rule("month", 3, anchor, (("days", (-1,)),)))
        begin = day_of(GREGORIAN, 2025, 11, 1)
        self.assertEqual(self.told(made, begin, begin + 365),
                         [(2025, 11, 30), (2026, 2, 28), (2026, 5, 31), (2026, 8, 31)])
        made = rule_days(GREGORIAN, rule("week", 3, anchor, (("weekdays", (0,)),)))
        self.assertEqual(made, periodic(21, [anchor - weekday_of(GREGORIAN, anchor)]))
        self.assertEqual(rule_days(GREGORIAN, rule("day", 10, anchor)), periodic(10, [anchor]))
        self.assertEqual(rule_days(GREGORIAN, rule("day", 1000, 10 ** 30 + 7)), periodic(1000, [7]))

    def test_weekdays_of_months_and_years(self):
        made = rule_days(GREGORIAN, rule("year", lists=(("month weekdays", ((0, 1), (6, -1))),)))
        begin = day_of(GREGORIAN, 2026, 3, 1)
        self.assertEqual(self.told(made, begin, begin + 61), [(2026, 3, 2), (2026, 3, 29), (2026, 4, 6), (2026, 4, 26)])
        made = rule_days(GREGORIAN, rule("day", lists=(("year weekdays", ((4, 53), (3, -1))),)))
        begin = day_of(GREGORIAN, 2020, 1, 1)
        self.assertEqual(self.told(made, begin, begin + 730), [(2020, 12, 31), (2021, 12, 30)])
        begin = day_of(GREGORIAN, 2021, 1, 1)
        self.assertIn((2021, 12, 31), self.told(made, begin, begin + 365))

    def test_what_a_calendar_does_not_have(self):
        for lists in ((("months", (13,)),), (("days", (32,)),), (("days", (-32,)),), (("year days", (367,)),),
                      (("weekdays", (7, 13)),), (("month weekdays", ((0, 6), (7, 1))),), (("year weekdays", ((0, 54),)),),
                      (("weeks", (54, -54)),), (("months", (2,)), ("days", (30,)))):
            self.assertEqual(rule_days(GREGORIAN, rule("month", 7, 3, lists)), EMPTY)
            self.assertFalse(tells(GREGORIAN, rule("month", 1, 3, lists), 740000))
        both = (("months", (13, 2)),)
        self.assertEqual(rule_days(GREGORIAN, rule("day", lists=both)), rule_days(GREGORIAN, rule("day", lists=(("months", (2,)),))))

    def test_places_among_candidates(self):
        lists = (("weekdays", (0, 2, 4)),)
        self.assertEqual(rule_days(GREGORIAN, rule("week", lists=lists, places=(2,))), periodic(7, [4]))
        self.assertEqual(rule_days(GREGORIAN, rule("week", lists=lists, places=(-1, 1))), periodic(7, [2, 6]))
        self.assertEqual(rule_days(GREGORIAN, rule("week", lists=lists, places=(4, -4))), EMPTY)
        self.assertEqual(rule_days(GREGORIAN, rule("day", lists=lists, places=(1,))), periodic(7, [2, 4, 6]))
        self.assertEqual(rule_days(GREGORIAN, rule("day", lists=lists, places=(2, -2))), EMPTY)
        # A number counts what counts, behind since, not what lies ahead of it in the period.
        one = rule("week", lists=lists, places=(1, 2), since=3, number=2)
        self.assertEqual(rule_days(GREGORIAN, one), single([4, 9]))

    def test_since_until_and_number(self):
        side = (3, (0, 1), False)
        self.assertEqual(rule_days(GREGORIAN, rule("day", 3)), (side, 0, (), 0, side))
        self.assertEqual(rule_days(GREGORIAN, rule("day", 3, since=4)), (NOTHING, 6, (), 6, side))
        self.assertEqual(rule_days(GREGORIAN, rule("day", 3, until=6)), (side, 9, (), 9, NOTHING))
        self.assertEqual(rule_days(GREGORIAN, rule("day", 3, until=5)), (side, 6, (), 6, NOTHING))
        self.assertEqual(rule_days(GREGORIAN, rule("day", 3, since=6, until=12)), single([6, 9, 12]))
        self.assertEqual(rule_days(GREGORIAN, rule("day", 3, since=7, until=8)), EMPTY)
        self.assertEqual(rule_days(GREGORIAN, rule("day", 3, since=9, until=0)), EMPTY)
        self.assertEqual(rule_days(GREGORIAN, rule("day", 3, since=-9, number=1)), single([-9]))
        self.assertEqual(rule_days(GREGORIAN, rule("day", 3, since=-8, number=3)), single([-6, -3, 0]))
        self.assertEqual(rule_days(GREGORIAN, rule("day", 3, since=-8, until=-2, number=3)), single([-6, -3]))
        self.assertEqual(rule_days(GREGORIAN, rule("day", 3, since=-8, until=-9, number=3)), EMPTY)
        self.assertEqual(rule_days(GREGORIAN, rule("day", 1, since=5, number=10 ** 9)),
                         (NOTHING, 5, ((5, 5 + 10 ** 9),), 5 + 10 ** 9, NOTHING))
        never = (("days", (32,)),)
        self.assertEqual(rule_days(GREGORIAN, rule("day", lists=never, since=5, number=10 ** 9)), EMPTY)
        self.assertEqual(rule_days(GREGORIAN, rule("day", lists=never, since=5, until=10 ** 30)), EMPTY)

    def test_tells_at_since_and_until(self):
        for one, days in ((rule("day", 3, since=6, until=12), [6, 9, 12]), (rule("day", 3, since=5, until=13), [6, 9, 12]),
                          (rule("day", 3, since=7, until=11), [9]), (rule("day", 3, until=0), [-6, -3, 0]),
                          (rule("day", 3, since=12), [12, 15, 18]), (rule("day", 3, since=6, until=12, number=2), [6, 9]),
                          (rule("day", 3, since=6, until=9, number=3), [6, 9])):
            self.assertEqual([day for day in range(-8, 20) if tells(GREGORIAN, one, day)], days)

    def test_tells_counts_far_away(self):
        one = rule("month", 1, 0, (("days", (13,)), ("weekdays", (4,))), since=-10, number=688 * 10 ** 6)
        day = day_of(GREGORIAN, 2026, 2, 13)
        ahead = len([x for x in range(-10, day) if date_of(GREGORIAN, x)[2] == 13 and weekday_of(GREGORIAN, x) == 4])
        self.assertTrue(tells(GREGORIAN, one, day))
        self.assertTrue(tells(GREGORIAN, (*one[:7], ahead + 1), day))
        self.assertFalse(tells(GREGORIAN, (*one[:7], ahead), day))
        far = day + 146097 * (10 ** 6 - 6)
        many = ahead + 688 * (10 ** 6 - 6)
        self.assertTrue(tells(GREGORIAN, (*one[:7], many + 1), far))
        self.assertFalse(tells(GREGORIAN, (*one[:7], many), far))
        self.assertFalse(tells(GREGORIAN, one, day + 146097 * 10 ** 20))
        self.assertTrue(tells(GREGORIAN, (*one[:7], None), day + 146097 * 10 ** 20))

    def test_intervals_up_to_1000(self):
        for unit, interval in (("month", 1000), ("year", 997), ("week", 999), ("year", 1000)):
            made = rule_days(GREGORIAN, rule(unit, interval, 740000, places=(1,)))
            day = 740000
            hits = [x for x in range(day - 370, day + 1) if holds(made, x)]
            self.assertEqual(len(hits), 1)
            self.assertTrue(tells(GREGORIAN, rule(unit, interval, 740000, places=(1,)), hits[0]))


class TooLargeRulesTest(unittest.TestCase):

    def days(self, many):
        """So many days of each month, none beside another one."""
        return (("days", tuple(range(1, 2 * many, 2))),)

    def test_40000_borders_of_the_side(self):
        # 4800 months of a great cycle: 4 days of each make 38,400 borders, 5 make 48,000.
        self.assertEqual(len(rule_days(GREGORIAN, rule("month", lists=self.days(4)))[0][1]), 38400)
        for since, until, number in ((None, None, None), (0, None, None), (None, 0, None), (0, 10, None), (0, None, 1), (5, 4, 1)):
            with self.assertRaises(TooLarge):
                rule_days(GREGORIAN, rule("month", 1, 0, self.days(5), (), since, until, number))
        # Each second month of 24 hundred, with 5 and with 10 days.
        self.assertEqual(len(rule_days(GREGORIAN, rule("month", 2, lists=self.days(5)))[0][1]), 24000)
        with self.assertRaises(TooLarge):
            rule_days(GREGORIAN, rule("month", 2, lists=self.days(10)))

    def test_borders_of_the_least_side(self):
        self.assertEqual(rule_days(GREGORIAN, rule("day", 2)), periodic(2, [0]))
        self.assertEqual(rule_days(GREGORIAN, rule("day", 3)), periodic(3, [0]))
        self.assertEqual(rule_days(GREGORIAN, rule("day", lists=(("weekdays", (0, 2, 4)),))), periodic(7, [2, 4, 6]))
        # The first days of years of two days each, of which some have a day more: two borders for each year of the cycle.
        calendar = ((1, 1), 2, 1, ((991, True),), 1, 0, 10)
        self.assertEqual(len(rule_days(calendar, rule("year", places=(1,)))[0][1]), 2 * 991)
        calendar = ((2,), 1, 1, ((200, True), (101, False)), 1, 0, 10)
        years = cycle_of(calendar)[0]
        self.assertEqual(years, 20200)
        with self.assertRaises(TooLarge):
            rule_days(calendar, rule("year", places=(1,)))
        calendar = ((2,), 1, 1, ((200, True), (99, False)), 1, 0, 10)
        self.assertEqual(cycle_of(calendar)[0], 19800)
        self.assertEqual(len(rule_days(calendar, rule("year", places=(1,)))[0][1]), 39600)

    def test_just_40000_borders(self):
        # 4,000 years of five months of two days each, of which some have days more.
        calendar = ((2, 2, 2, 2, 2), 1, 1, ((160, True), (125, False)), 1, 0, 10)
        self.assertEqual(cycle_of(calendar)[0], 4000)
        self.assertEqual(len(rule_days(calendar, rule("month", places=(1,)))[0][1]), 40000)
        calendar = ((2, 2, 2, 2, 2), 1, 3, ((160, True), (125, False)), 1, 0, 10)
        self.assertEqual(len(rule_days(calendar, rule("month", lists=(("days", (1,)),)))[0][1]), 40000)
        with self.assertRaises(TooLarge):
            rule_days(calendar, rule("month", lists=(("days", (1, 3)),)))

    def test_40000_runs(self):
        self.assertEqual(len(rule_days(GREGORIAN, rule("day", 2, since=0, until=79999))[2]), 40000)
        self.assertEqual(len(rule_days(GREGORIAN, rule("day", 2, since=-5, until=79994))[2]), 40000)
        self.assertEqual(len(rule_days(GREGORIAN, rule("day", 2, since=-5, until=79995))[2]), 40000)
        for one in (rule("day", 2, since=0, until=80000), rule("day", 2, since=0, number=40001),
                    rule("day", 2, since=-1, until=80000), rule("day", 2, since=-10 ** 30, until=10 ** 30),
                    rule("day", 2, since=5, until=10 ** 30, number=10 ** 9)):
            with self.assertRaises(TooLarge):
                rule_days(GREGORIAN, one)
        self.assertEqual(rule_days(GREGORIAN, rule("day", 2, since=0, number=40000))[3], 79999)
        self.assertEqual(len(rule_days(GREGORIAN, rule("day", 2, since=0, until=10 ** 30, number=40000))[2]), 40000)
        self.assertEqual(len(rule_days(GREGORIAN, rule("day", 2, since=1, until=80000, number=10 ** 9))[2]), 40000)
        # No bound where there is no until and no number, or no since.
        rule_days(GREGORIAN, rule("day", 2, since=-10 ** 30))
        rule_days(GREGORIAN, rule("day", 2, until=10 ** 30))

    def test_runs_of_several_days(self):
        lists = (("weekdays", (0, 1, 2, 3, 4)),)
        # Day 2 is a Monday: 40,000 weeks from it on, and one day more.
        self.assertEqual(len(rule_days(GREGORIAN, rule("day", lists=lists, since=2, until=280001))[2]), 40000)
        with self.assertRaises(TooLarge):
            rule_days(GREGORIAN, rule("day", lists=lists, since=2, until=280002))
        # Day 3 is in the middle of a run.
        self.assertEqual(len(rule_days(GREGORIAN, rule("day", lists=lists, since=3, until=280001))[2]), 40000)
        with self.assertRaises(TooLarge):
            rule_days(GREGORIAN, rule("day", lists=lists, since=3, until=280002))
        self.assertEqual(len(rule_days(GREGORIAN, rule("day", lists=lists, since=2, number=200000))[2]), 40000)
        with self.assertRaises(TooLarge):
            rule_days(GREGORIAN, rule("day", lists=lists, since=2, number=200001))
        self.assertEqual(rule_days(GREGORIAN, rule("day", since=0, number=10 ** 9))[2], ((0, 10 ** 9),))

    def test_the_days_of_a_run_are_the_same(self):
        one = rule("day", 2, since=0, number=5)
        self.assertEqual(list(rule_days(GREGORIAN, one)[2]), runs_of_days([0, 2, 4, 6, 8]))
        self.assertEqual(union(rule_days(GREGORIAN, one), single([9])), single([0, 2, 4, 6, 8, 9]))


if __name__ == "__main__":
    unittest.main()
