"""Point 8: the years to which weeks belong."""

import datetime
import unittest

from everydue.calendars import GREGORIAN, date_of, day_of, week_of
from tests.plain_calendar import ALL_CALENDARS, LITTLE, plain_cycle, plain_dates, plain_week_years

BEHIND = 365


class WeekTest(unittest.TestCase):

    def test_weeks_counted_day_by_day(self):
        for calendar in ALL_CALENDARS:
            dates = plain_dates(calendar, 1800)
            owners = plain_week_years(calendar, dates)
            weeks = {}
            for week, year in owners.items():
                weeks.setdefault(year, []).append(week)
            # The weeks of the first and the last years may lie behind the dates.
            sure = sorted(weeks)[2:-2]
            self.assertGreaterEqual(len(sure), 5)
            self.assertTrue(sure[0] < 0 < sure[-1])
            for day in dates:
                week = (day + calendar[5]) // calendar[4]
                year = owners.get(week)
                if year in sure:
                    place = weeks[year].index(week)
                    told = week_of(calendar, day)
                    self.assertEqual(told, (year, place + 1, place - len(weeks[year])), (calendar, day))
                    self.assertIs(type(told), tuple)

    def test_gregorian_weeks_are_those_of_the_iso_calendar(self):
        for begin in (1, 1590, 1890, 1990, 2390, 9900):
            first = datetime.date(begin, 1, 8).toordinal()
            for number in range(first, first + 12000):
                date = datetime.date.fromordinal(number)
                year, week, _ = date.isocalendar()
                many = datetime.date(year, 12, 28).isocalendar()[1]
                self.assertEqual(week_of(GREGORIAN, number + BEHIND), (year, week, week - many - 1))

    def test_some_weeks_of_gregorian(self):
        self.assertEqual(week_of(GREGORIAN, day_of(GREGORIAN, 2021, 1, 3)), (2020, 53, -1))
        self.assertEqual(week_of(GREGORIAN, day_of(GREGORIAN, 2021, 1, 4)), (2021, 1, -52))
        self.assertEqual(week_of(GREGORIAN, day_of(GREGORIAN, 2024, 12, 30)), (2025, 1, -52))
        # Day 0 is a Saturday.
        self.assertEqual(week_of(GREGORIAN, 0), (-1, 52, -1))
        self.assertEqual(week_of(GREGORIAN, 2), (0, 1, -52))

    def test_of_years_with_as_many_days_the_latest_one(self):
        # Years of 2 days, weeks of 4: each week lies in two years, or in three.
        even = ((2,), 1, 0, (), 4, 0, 1)
        self.assertEqual([week_of(even, day) for day in range(-4, 4)], [(-1, 1, -1)] * 4 + [(1, 1, -1)] * 4)
        odd = ((2,), 1, 0, (), 4, 1, 1)
        self.assertEqual([week_of(odd, day) for day in range(-1, 3)], [(0, 1, -1)] * 4)
        self.assertEqual([week_of(odd, day) for day in range(3, 7)], [(2, 1, -1)] * 4)
        # Fourteen years of one day in one week.
        short = ((1,), 1, 0, (), 14, 13, 2000)
        self.assertEqual([week_of(short, day) for day in (-14, -13, 0, 1, 14)],
                         [(-14, 1, -1), (0, 1, -1), (0, 1, -1), (14, 1, -1), (14, 1, -1)])
        # Weeks of one day.
        single = ((3,), 1, 0, (), 1, 0, 1)
        self.assertEqual([week_of(single, day) for day in range(-1, 4)],
                         [(-1, 3, -1), (0, 1, -3), (0, 2, -2), (0, 3, -1), (1, 1, -3)])

    def test_a_year_in_the_middle_of_a_week(self):
        # Years of 3, 9, 3, 9 .. days, weeks of 14.
        calendar = ((3,), 1, 6, ((1, True), (2, False)), 14, 0, 1)
        self.assertEqual(date_of(calendar, 3), (1, 1, 1))
        self.assertEqual(week_of(calendar, 0), (1, 1, -1))
        self.assertEqual(week_of(calendar, 13), (1, 1, -1))
        self.assertEqual(week_of(calendar, 14), (3, 1, -1))

    def test_great_cycles_later_and_earlier(self):
        for calendar in [*LITTLE, GREGORIAN]:
            years, days, many = plain_cycle(calendar)
            for turns in (1, -1, 10 ** 30, -10 ** 30):
                for day in range(-60, 61):
                    year, first, last = week_of(calendar, day)
                    told = week_of(calendar, day + turns * days * many)
                    self.assertEqual(told, (year + turns * years * many, first, last))


if __name__ == "__main__":
    unittest.main()
