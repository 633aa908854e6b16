"""Points 34 and 35: the form of a zone, and whether it fits a calendar."""

import random
import unittest

from everydue.calendars import GREGORIAN
from everydue.zones import UTC, zone_word
from tests.odd_values import deep
from tests.plain_zones import LITTLE_DAYS, PlainMonths, some_zone

BERLIN = (60, (), (1996, ((3, -1, 6, 60, 120), (10, -1, 6, 60, 60))))

DEEP = [deep(tuple, 20000), deep(list, 20000)]

ROW = (3, -1, 6, 60, 120)

NO_ROWS = [
    None, True, 0, "", (), [], (1, 1, None, 0), (1, 1, None, 0, 0, 0), [1, 1, None, 0, 0],
    (0, 1, None, 0, 0), (-1, 1, None, 0, 0), (True, 1, None, 0, 0), (None, 1, None, 0, 0), ("1", 1, None, 0, 0),
    (1, 0, None, 0, 0), (1, True, None, 0, 0), (1, None, None, 0, 0), (1, "1", None, 0, 0),
    (1, 1, -1, 0, 0), (1, 1, True, 0, 0), (1, 1, False, 0, 0), (1, 1, "any", 0, 0), (1, 1, (), 0, 0),
    (1, 1, None, -1, 0), (1, 1, None, None, 0), (1, 1, None, False, 0), (1, 1, None, "0", 0),
    (1, 1, None, 0, 2001), (1, 1, None, 0, -2001), (1, 1, None, 0, None), (1, 1, None, 0, True), (1, 1, None, 0, "0"),
    *DEEP, *[(value, 1, None, 0, 0) for value in DEEP], *[(1, 1, value, 0, 0) for value in DEEP],
]

NO_ZONES = [
    None, True, 0, "", "abc", (), [], (0, ()), (0, (), None, None), [0, (), None],
    # the offset, and the moves
    (None, (), None), (True, (), None), ("0", (), None), (2001, (), None), (-2001, (), None), (10 ** 30, (), None),
    (0, None, None), (0, [], None), (0, "", None), (0, (0,), None), (0, (None,), None), (0, ((0,),), None),
    (0, ((0, 0, 0),), None), (0, ([0, 0],), None), (0, ((None, 0),), None), (0, ((True, 0),), None), (0, (("0", 0),), None),
    (0, ((0, None),), None), (0, ((0, True),), None), (0, ((0, 2001),), None), (0, ((0, -2001),), None),
    (0, ((0, 0), (0, 0)), None), (0, ((5000, 0), (0, 0)), None), (0, ((0, 0), (9000, 0), (8000, 0)), None),
    (0, tuple((5000 * k, 0) for k in range(61)), None),
    # the turns
    (0, (), True), (0, (), 0), (0, (), ()), (0, (), []), (0, (), (2000,)), (0, (), [2000, (ROW,)]), (0, (), (2000, (ROW,), 0)),
    (0, (), (None, (ROW,))), (0, (), (True, (ROW,))), (0, (), ("2000", (ROW,))), (0, (), (2000, ())), (0, (), (2000, [ROW])),
    (0, (), (2000, None)), (0, (), (2000, ROW)), (0, (), (2000, tuple((k, 1, None, 0, 0) for k in (1, 3, 5, 7, 9)))),
    *[(0, (), (2000, (row,))) for row in NO_ROWS],
    *[(0, (), (2000, (ROW, row))) for row in NO_ROWS[:20]],
    *DEEP, *[(value, (), None) for value in DEEP], *[(0, value, None) for value in DEEP], *[(0, (), value) for value in DEEP],
    *[(0, (value,), None) for value in DEEP], *[(0, (), (2000, value)) for value in DEEP], *[(0, (), (value, (ROW,))) for value in DEEP],
]


class ZoneWordTest(unittest.TestCase):

    def test_zones_that_fit(self):
        self.assertEqual(UTC, (0, (), None))
        for zone in (UTC, BERLIN, (1440, (), None), (-1440, (), None), (0, ((0, 1440), (2880, 0)), None),
                     (0, tuple((2880 * k, k % 3) for k in range(60)), None), (0, (), (-10 ** 30, (ROW,))),
                     (60, ((10 ** 30, 0),), None), (0, (), (10 ** 30, ROW and (ROW,))),
                     (0, (), (2000, tuple((k, 1, None, 1439, 0) for k in (1, 4, 7, 10))))):
            self.assertIsNone(zone_word(GREGORIAN, zone), zone)

    def test_form(self):
        for zone in NO_ZONES:
            self.assertEqual(zone_word(GREGORIAN, zone), "form")

    def test_form_is_the_same_in_all_calendars(self):
        # What has the form may still not fit.
        tiny = ((1,), 1, 0, (), 1, 0, 1)
        for zone in ((2000, (), None), (-2000, (), None), (0, ((0, 2000),), None), (0, (), (0, ((1, 1, None, 0, -2000),)))):
            self.assertEqual(zone_word(tiny, zone), "offset")
        for zone in NO_ZONES[:20]:
            self.assertEqual(zone_word(tiny, zone), "form")

    def test_offset(self):
        for zone in ((1441, (), None), (-1441, (), None), (0, ((0, 1441),), None), (0, (), (2000, ((1, 1, None, 0, -1441),)))):
            self.assertEqual(zone_word(GREGORIAN, zone), "offset")
        # Also where a row never turns, and where more is wrong.
        self.assertEqual(zone_word(GREGORIAN, (0, (), (2000, ((13, 1, None, 5000, 1441),)))), "offset")
        self.assertEqual(zone_word(GREGORIAN, (0, ((0, 0), (5, 1441)), None)), "offset")

    def test_minute(self):
        for month in (1, 13):
            self.assertEqual(zone_word(GREGORIAN, (0, (), (2000, ((month, 1, None, 1440, 0),)))), "minute")
        self.assertIsNone(zone_word(GREGORIAN, (0, (), (2000, ((1, 1, None, 1439, 0),)))))
        self.assertEqual(zone_word(GREGORIAN, (0, ((0, 0), (5, 0)), (2000, ((1, 1, None, 10 ** 30, 0),)))), "minute")

    def test_many(self):
        # Years of ten days: 20,000 and more of them in a great cycle.
        row = ((1, 1, None, 0, 0),)
        calendar = ((10,), 1, 1, ((200, True), (100, False)), 1, 0, 10)
        self.assertIsNone(zone_word(calendar, (0, (), (0, row))))
        calendar = ((10,), 1, 1, ((625, True), (32, False)), 1, 0, 10)
        self.assertIsNone(zone_word(calendar, (0, (), (-7, row))))
        two = ((1, 1, None, 0, 0), (1, 11, None, 0, 0))
        # In long years alone there is a day 11: 32 and 31 of them.
        self.assertEqual(zone_word(calendar, (0, (), (5, two))), "many")
        self.assertEqual(zone_word(calendar, (0, ((10 ** 30, 0),), (5, two))), "many")
        self.assertIsNone(zone_word(calendar, (0, (), (5, ((1, 11, None, 0, 0),)))))
        self.assertIsNone(zone_word(calendar, (0, (), (5, (row[0], (2, 1, None, 0, 0))))))
        self.assertEqual(zone_word(calendar, (0, (), (5, (row[0], (1, 5, None, 10, 0))))), "minute")

    def test_order(self):
        # The first turn from 2000 on is at the beginning of day 730485.
        first = 730485 * 1440
        turns = (2000, ((1, 1, None, 0, 0),))
        for moment, word in ((first, "order"), (first + 1, "order"), (10 ** 30, "order"), (first - 2880, None),
                             (first - 2879, "near"), (-10 ** 30, None)):
            self.assertEqual(zone_word(GREGORIAN, (0, ((moment, 0),), turns)), word)
        # The first turn need not be in the first year: the 29th of February of 2104 is the next one behind 2096.
        turns = (2097, ((2, 29, None, 0, 0),))
        first = (first // 1440 + 365 * 104 + 26 + 59 - 1) * 1440
        self.assertIsNone(zone_word(GREGORIAN, (0, ((first - 2880, 0),), turns)))
        self.assertEqual(zone_word(GREGORIAN, (0, ((first - 2879, 0),), turns)), "near")
        self.assertEqual(zone_word(GREGORIAN, (0, ((first, 0),), turns)), "order")
        # Ahead of near.
        self.assertEqual(zone_word(GREGORIAN, (0, ((0, 0), (1, 0), (first, 0)), turns)), "order")
        # Turns that never are: nothing is out of order.
        self.assertIsNone(zone_word(GREGORIAN, (0, ((10 ** 30, 0),), (0, ((2, 30, None, 0, 0),)))))

    def test_near(self):
        for zone in ((0, ((0, 0), (2879, 0)), None), (0, ((0, 721), (2880, -720)), None), (721, ((0, -720),), None),
                     (0, (), (2000, ((1, 1, None, 1, 0), (1, 3, None, 0, 0)))), (721, (), (2000, ((1, 1, None, 0, -720),))),
                     (0, (), (2000, ((1, 1, None, 0, 0), (12, 31, None, 0, 0)))),
                     (0, (), (2000, ((1, 1, None, 0, 0), (12, -1, None, 0, 0)))),
                     (0, (), (2000, ((1, 1, None, 0, 721), (6, 1, None, 0, -720)))),
                     (0, (), (2000, ((5, 1, None, 0, 0), (5, 1, None, 0, 0)))),
                     (0, (), (2000, ((5, 1, None, 0, 0), (5, 1, 6, 0, 0))))):
            self.assertEqual(zone_word(GREGORIAN, zone), "near", zone)
        for zone in ((0, ((0, 0), (2880, 0)), None), (0, ((0, 720), (2880, -720)), None), (720, ((0, -720),), None),
                     (0, (), (2000, ((1, 1, None, 0, 0), (1, 3, None, 0, 0)))),
                     (0, (), (2000, ((1, 1, None, 0, 0), (12, 30, None, 0, 0)))),
                     (0, (), (2000, ((1, 1, None, 0, 720), (6, 1, None, 0, -720))))):
            self.assertIsNone(zone_word(GREGORIAN, zone), zone)
        # The offsets differ by too much over the end of the year alone.
        rows = ((1, 1, None, 0, 800), (5, 1, None, 0, 0), (9, 1, None, 0, -800))
        self.assertEqual(zone_word(GREGORIAN, (0, (), (2000, rows))), "near")
        self.assertIsNone(zone_word(GREGORIAN, (0, (), (2000, rows[:2]))))

    def test_against_the_words(self):
        chance = random.Random(351)
        words = {}
        for calendar in LITTLE_DAYS:
            months = PlainMonths(calendar, 900)
            for _ in range(250):
                zone = some_zone(chance, calendar)
                word = months.word(zone)
                self.assertEqual(zone_word(calendar, zone), word, (calendar, zone))
                words[word] = words.get(word, 0) + 1
        self.assertEqual(set(words), {None, "offset", "minute", "order", "near"})


if __name__ == "__main__":
    unittest.main()
