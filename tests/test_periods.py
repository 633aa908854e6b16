"""Points 6 and 7: periods of the units, and places in them."""

import unittest

from everydue.calendars import GREGORIAN, date_of, day_of, first_day, period_of, places_of
from tests.plain_calendar import ALL_CALENDARS, LITTLE, UNITS, plain_cycle, plain_dates, plain_period


class PeriodTest(unittest.TestCase):

    def test_periods_walked_day_by_day(self):
        for calendar in ALL_CALENDARS:
            for day, date in plain_dates(calendar, 500).items():
                for unit in UNITS:
                    told = period_of(calendar, unit, day)
                    self.assertEqual(told, plain_period(calendar, unit, day, date), (calendar, unit, day))

    def test_first_days_and_places_walked_day_by_day(self):
        for calendar in ALL_CALENDARS:
            dates = plain_dates(calendar, 700)
            for unit in UNITS:
                lying = {}
                for day, date in dates.items():
                    lying.setdefault(plain_period(calendar, unit, day, date), []).append(day)
                whole = sorted(lying)[1:-1]
                for period in whole:
                    days = lying[period]
                    self.assertEqual(first_day(calendar, unit, period), days[0], (calendar, unit, period))
                    for place, day in enumerate(days):
                        told = places_of(calendar, unit, day)
                        self.assertEqual(told, (place + 1, place - len(days)), (calendar, unit, day))
                        self.assertIs(type(told), tuple)

    def test_some_periods_of_gregorian(self):
        day = day_of(GREGORIAN, 2026, 11, 19)
        self.assertEqual(period_of(GREGORIAN, "day", day), day)
        self.assertEqual(period_of(GREGORIAN, "month", day), 2026 * 12 + 10)
        self.assertEqual(period_of(GREGORIAN, "year", day), 2026)
        self.assertEqual(first_day(GREGORIAN, "week", period_of(GREGORIAN, "week", day)), day - 3)
        self.assertEqual(places_of(GREGORIAN, "week", day), (4, -4))
        self.assertEqual(places_of(GREGORIAN, "month", day), (19, -12))
        self.assertEqual(places_of(GREGORIAN, "year", day), (323, -43))
        self.assertEqual(places_of(GREGORIAN, "day", day), (1, -1))

    def test_periods_ahead_of_day_0(self):
        self.assertEqual(period_of(GREGORIAN, "week", 0), 0)
        self.assertEqual(period_of(GREGORIAN, "week", 1), 0)
        self.assertEqual(period_of(GREGORIAN, "week", 2), 1)
        self.assertEqual(period_of(GREGORIAN, "week", -5), 0)
        self.assertEqual(period_of(GREGORIAN, "week", -6), -1)
        self.assertEqual(first_day(GREGORIAN, "week", 0), -5)
        self.assertEqual(period_of(GREGORIAN, "month", -1), -1)
        self.assertEqual(period_of(GREGORIAN, "month", -32), -2)
        self.assertEqual(period_of(GREGORIAN, "year", -1), -1)
        self.assertEqual(first_day(GREGORIAN, "month", -1), -31)
        self.assertEqual(first_day(GREGORIAN, "month", -12), -365)
        self.assertEqual(first_day(GREGORIAN, "year", -1), -365)
        self.assertEqual(places_of(GREGORIAN, "year", -1), (365, -1))
        self.assertEqual(places_of(GREGORIAN, "month", 59), (29, -1))

    def test_great_cycles_later_and_earlier(self):
        for calendar in [*LITTLE, GREGORIAN]:
            years, days, many = plain_cycle(calendar)
            steps = {
                "day": days * many,
                "week": days * many // calendar[4],
                "month": years * many * len(calendar[0]),
                "year": years * many,
            }
            for turns in (1, -1, 10 ** 30, -10 ** 30):
                for day in range(-40, 41):
                    other = day + turns * days * many
                    for unit in UNITS:
                        period = period_of(calendar, unit, day)
                        moved = period + turns * steps[unit]
                        self.assertEqual(period_of(calendar, unit, other), moved)
                        begin = first_day(calendar, unit, period) + turns * days * many
                        self.assertEqual(first_day(calendar, unit, moved), begin)
                        self.assertEqual(places_of(calendar, unit, other), places_of(calendar, unit, day))

    def test_far_away_periods_of_gregorian(self):
        for year in (10 ** 12, -10 ** 12, 10 ** 12 + 4, 10 ** 12 + 100, -10 ** 12 + 399):
            day = first_day(GREGORIAN, "year", year)
            self.assertEqual(date_of(GREGORIAN, day), (year, 1, 1))
            self.assertEqual(period_of(GREGORIAN, "year", day - 1), year - 1)
            self.assertEqual(first_day(GREGORIAN, "month", year * 12 + 2), day_of(GREGORIAN, year, 3, 1))
            long = first_day(GREGORIAN, "year", year + 1) - day == 366
            self.assertEqual(places_of(GREGORIAN, "year", day), (1, -366 if long else -365))


if __name__ == "__main__":
    unittest.main()
