"""Point 5: days, dates and weekdays."""

import datetime
import unittest

from everydue.calendars import GREGORIAN, cycle_of, date_of, day_of, is_long, weekday_of
from everydue.errors import EverydueError, NoSuchDay
from tests.plain_calendar import ALL_CALENDARS, LITTLE, plain_cycle, plain_dates, plain_months

# The day 1 of the year 1 is number 1 in the datetime module; ahead of it lies the year 0, a long one.
BEHIND = 365


class DateTest(unittest.TestCase):

    def test_day_0_is_the_first_day_of_year_0(self):
        for calendar in ALL_CALENDARS:
            self.assertEqual(date_of(calendar, 0), (0, 1, 1))
            self.assertEqual(day_of(calendar, 0, 1, 1), 0)
            self.assertEqual(date_of(calendar, -1)[0], -1)
            self.assertEqual(weekday_of(calendar, 0), calendar[5])

    def test_walked_day_by_day(self):
        for calendar in ALL_CALENDARS:
            for day, date in plain_dates(calendar, 1500).items():
                told = date_of(calendar, day)
                self.assertEqual(told, date, (calendar, day))
                self.assertIs(type(told), tuple)
                self.assertEqual(day_of(calendar, *date), day, (calendar, date))

    def test_weekdays_walked_day_by_day(self):
        for calendar in ALL_CALENDARS:
            week, first = calendar[4:6]
            weekday = first
            for day in range(0, 100):
                self.assertEqual(weekday_of(calendar, day), weekday)
                weekday = 0 if weekday == week - 1 else weekday + 1
            weekday = first
            for day in range(0, -100, -1):
                self.assertEqual(weekday_of(calendar, day), weekday)
                weekday = week - 1 if weekday == 0 else weekday - 1

    def test_some_dates(self):
        self.assertEqual(date_of(GREGORIAN, -1), (-1, 12, 31))
        self.assertEqual(date_of(GREGORIAN, 59), (0, 2, 29))
        self.assertEqual(date_of(GREGORIAN, 60), (0, 3, 1))
        self.assertEqual(date_of(GREGORIAN, -365), (-1, 1, 1))
        self.assertEqual(date_of(GREGORIAN, -366), (-2, 12, 31))
        self.assertEqual(day_of(GREGORIAN, 2024, 2, 29), datetime.date(2024, 2, 29).toordinal() + BEHIND)
        self.assertEqual(weekday_of(GREGORIAN, day_of(GREGORIAN, 2026, 11, 19)), 3)
        one = ((1,), 1, 0, (), 1, 0, 1)
        self.assertEqual(date_of(one, -17), (-17, 1, 1))
        self.assertEqual(weekday_of(one, -17), 0)
        extra = ((1, 1, 1), 2, 30, ((3, True),), 7, 2, 60)
        self.assertEqual(date_of(extra, 31), (0, 2, 31))
        self.assertEqual(date_of(extra, 32), (0, 3, 1))
        self.assertEqual(date_of(extra, 33), (1, 1, 1))
        self.assertEqual(date_of(extra, -2), (-1, 2, 1))
        self.assertEqual(date_of(extra, -8), (-3, 2, 31))

    def test_gregorian_from_1600_to_2400(self):
        begin = datetime.date(1600, 1, 1).toordinal()
        end = datetime.date(2401, 1, 1).toordinal()
        for number in range(begin, end, 3):
            date = datetime.date.fromordinal(number)
            day = number + BEHIND
            self.assertEqual(date_of(GREGORIAN, day), (date.year, date.month, date.day))
            self.assertEqual(day_of(GREGORIAN, date.year, date.month, date.day), day)
            self.assertEqual(weekday_of(GREGORIAN, day), date.weekday())

    def test_gregorian_far_away(self):
        begin = datetime.date(1999, 12, 1).toordinal()
        for turns in (5 * 10 ** 9 // 2, -5 * 10 ** 9 // 2):
            for number in range(begin, begin + 2000):
                date = datetime.date.fromordinal(number)
                day = number + BEHIND + turns * 146097
                year = date.year + turns * 400
                self.assertGreater(abs(year), 10 ** 12 - 5000)
                self.assertEqual(date_of(GREGORIAN, day), (year, date.month, date.day))
                self.assertEqual(day_of(GREGORIAN, year, date.month, date.day), day)
                self.assertEqual(weekday_of(GREGORIAN, day), date.weekday())

    def test_the_same_date_great_cycles_later_and_earlier(self):
        for calendar in LITTLE:
            years, days, many = plain_cycle(calendar)
            for turns in (1, -1, 10 ** 30, -10 ** 30):
                for day in range(-60, 61):
                    year, month, number = date_of(calendar, day)
                    moved = (year + turns * many * years, month, number)
                    other = day + turns * days * many
                    self.assertEqual(date_of(calendar, other), moved)
                    self.assertEqual(day_of(calendar, *moved), other)
                    self.assertEqual(weekday_of(calendar, other), weekday_of(calendar, day))

    def test_no_such_day(self):
        for calendar in ALL_CALENDARS:
            for year in (-401, -5, -4, -1, 0, 1, 2, 3, 4, 100, 399, 400, 10 ** 12, -10 ** 30):
                months = plain_months(calendar, year)
                for month, days in enumerate(months, start=1):
                    self.assertEqual(date_of(calendar, day_of(calendar, year, month, days)), (year, month, days))
                    for number in (0, -1, -days, days + 1, days + 1000, 10 ** 30, -10 ** 30):
                        with self.assertRaises(NoSuchDay):
                            day_of(calendar, year, month, number)
                for month in (0, -1, -len(months), len(months) + 1, 10 ** 30, -10 ** 30):
                    for number in (1, 0, -1):
                        with self.assertRaises(NoSuchDay):
                            day_of(calendar, year, month, number)

    def test_longer_months_are_those_of_long_years(self):
        self.assertEqual(day_of(GREGORIAN, 2000, 2, 29) + 1, day_of(GREGORIAN, 2000, 3, 1))
        for year in (1900, 2023, -1, -100, 10 ** 30 + 100):
            with self.assertRaises(NoSuchDay):
                day_of(GREGORIAN, year, 2, 29)
        calendar = LITTLE[3]
        for year in range(-9, 10):
            if is_long(calendar, year):
                self.assertEqual(day_of(calendar, year, 2, 31), day_of(calendar, year, 3, 1) - 1)
            else:
                with self.assertRaises(NoSuchDay):
                    day_of(calendar, year, 2, 2)

    def test_no_such_day_is_an_error_of_the_package(self):
        with self.assertRaises(EverydueError):
            day_of(GREGORIAN, 2023, 2, 29)

    def test_a_cycle_of_very_many_years(self):
        # 80,000 years, 128 of them or 625 of them longer.
        rules = ((128, True), (625, True), (80, False))
        calendar = ((1, 3), 1, 30, rules, 1, 0, 1)
        years, days, many = plain_cycle(calendar)
        self.assertEqual(cycle_of(calendar), (years, days * many))
        day = 0
        for year in range(years):
            if year % 37 == 0 or is_long(calendar, year):
                self.assertEqual(date_of(calendar, day), (year, 1, 1))
                self.assertEqual(date_of(calendar, day - 1 - 10 ** 20 * days)[0], year - 1 - 10 ** 20 * years)
            day += sum(plain_months(calendar, year))
        self.assertEqual(day, days)


if __name__ == "__main__":
    unittest.main()
