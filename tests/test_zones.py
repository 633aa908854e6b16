"""Points 32 to 39: offsets, local times, and days at local minutes, against trying moment by moment."""

import random
import unittest

from everydue.calendars import GREGORIAN, cycle_of, date_of, day_of
from everydue.daysets import ALL, EMPTY, holds, normal, periodic, single
from everydue.errors import TooLarge
from everydue.joins import measure
from everydue.minutes import ALWAYS, NEVER, minuteset_fault, moment_holds, moment_next, moments_between, normal_minutes
from everydue.zones import UTC, days_at, local_days, local_of, moments_of, next_move, offset_at, offset_days, zone_word
from tests.plain_zones import LITTLE_DAYS, WAYS, PlainMonths, PlainZone, some_fitting_zone
from tests.some_sets import NOTHING, some_dayset, some_minuteset, within
from tests.test_zone_words import BERLIN


class ZonesByChanceTest(unittest.TestCase):

    def setUp(self):
        self.chance = random.Random(361)

    def zones(self, many):
        """Pairs of a calendar and zones that fit it, each with its plain form from 50 days ahead of 0 to 50 behind."""
        for calendar in LITTLE_DAYS:
            months = PlainMonths(calendar, 900)
            for _ in range(many):
                zone = some_fitting_zone(self.chance, calendar, months)
                yield calendar, zone, PlainZone(months, zone, -60 * calendar[6], 60 * calendar[6])

    def test_offsets_and_moves(self):
        for calendar, zone, plain in self.zones(25):
            for moment in range(-50 * calendar[6], 50 * calendar[6], 2):
                self.assertEqual(offset_at(calendar, zone, moment), plain.offset[moment])
                self.assertEqual(local_of(calendar, zone, moment), moment + plain.offset[moment])
                behind = [move for move in plain.moves if move[0] > moment]
                self.assertEqual(next_move(calendar, zone, moment), behind[0] if behind else None)

    def test_moments_of(self):
        many = {}
        for calendar, zone, plain in self.zones(20):
            for local in range(-40 * calendar[6], 40 * calendar[6]):
                for way in WAYS:
                    told = moments_of(calendar, zone, local, way)
                    self.assertIs(type(told), list)
                    self.assertEqual(told, plain.moments(local, way), (calendar, zone, local, way))
                many[len(plain.moments(local, "both"))] = True
        self.assertEqual(set(many), {0, 1, 2})

    def test_offset_days(self):
        for calendar, zone, plain in self.zones(20):
            for minute in range(calendar[6]):
                rows = offset_days(calendar, zone, minute)
                self.assertIs(type(rows), list)
                self.assertEqual([offset for offset, _ in rows], sorted({offset for offset, _ in rows}))
                for _, dayset in rows:
                    self.assertEqual(normal(dayset), dayset)
                    self.assertNotEqual(dayset, EMPTY)
                for day in range(-50, 50):
                    told = [offset for offset, dayset in rows if holds(dayset, day)]
                    self.assertEqual(told, [plain.offset[day * calendar[6] + minute]], (calendar, zone, minute, day))

    def test_days_at(self):
        for calendar, zone, plain in self.zones(12):
            minutes = calendar[6]
            window = range(-45 * minutes, 45 * minutes)
            one = some_dayset(self.chance, 4, 15)
            for minute in {0, minutes - 1, self.chance.randrange(minutes)}:
                for way in WAYS:
                    told = days_at(calendar, one, minute, zone, way)
                    self.assertIsNone(minuteset_fault(calendar, told))
                    self.assertEqual(normal_minutes(calendar, told), told)
                    members = {u for day in within(one, range(-50, 50)) for u in plain.moments(day * minutes + minute, way)}
                    self.assertEqual({u for u in window if moment_holds(calendar, told, u)}, members & set(window),
                                     (calendar, zone, one, minute, way))

    def test_local_days(self):
        for calendar, zone, plain in self.zones(25):
            minutes = calendar[6]
            for _ in range(3):
                one = some_minuteset(self.chance, minutes, 3, 12)
                told = local_days(calendar, one, zone)
                self.assertEqual(normal(told), told)
                days = {(u + plain.offset[u]) // minutes for u in range(-55 * minutes, 55 * minutes)
                        if moment_holds(calendar, one, u)}
                self.assertEqual({day for day in range(-50, 50) if holds(told, day)}, days & set(range(-50, 50)),
                                 (calendar, zone, one))

    def test_days_at_and_their_local_days(self):
        for calendar, zone, _ in self.zones(10):
            one = some_dayset(self.chance, 4, 15)
            for way in ("both", "first", "last"):
                for minute in (0, calendar[6] - 1):
                    told = local_days(calendar, days_at(calendar, one, minute, zone, way), zone)
                    days = [x for x in range(-40, 40) if holds(one, x)]
                    days = [x for x in days if moments_of(calendar, zone, x * calendar[6] + minute, way)]
                    self.assertEqual([x for x in range(-40, 40) if holds(told, x)], days)

    def test_many_great_cycles_away(self):
        for calendar, zone, _ in self.zones(6):
            cycle = cycle_of(calendar)[1] * calendar[6]
            begin = (150 * calendar[6] // cycle + 2) * cycle
            for moment in range(begin, begin + 12 * calendar[6]):
                offset, move = offset_at(calendar, zone, moment), next_move(calendar, zone, moment)
                for more in (cycle, cycle * 10 ** 20):
                    self.assertEqual(offset_at(calendar, zone, moment + more), offset)
                    later = None if move is None else (move[0] + more, move[1])
                    self.assertEqual(next_move(calendar, zone, moment + more), later)
                    for way in WAYS:
                        told = [u + more for u in moments_of(calendar, zone, moment, way)]
                        self.assertEqual(moments_of(calendar, zone, moment + more, way), told)


class BerlinTest(unittest.TestCase):

    def setUp(self):
        # The last Sundays of March and October 2026.
        self.spring = day_of(GREGORIAN, 2026, 3, 29) * 1440 + 60
        self.autumn = day_of(GREGORIAN, 2026, 10, 25) * 1440 + 60

    def test_offsets(self):
        self.assertIsNone(zone_word(GREGORIAN, BERLIN))
        for moment, offset in ((self.spring - 1, 60), (self.spring, 120), (self.autumn - 1, 120), (self.autumn, 60),
                               (-10 ** 30, 60), (day_of(GREGORIAN, 1995, 7, 1) * 1440, 60)):
            self.assertEqual(offset_at(GREGORIAN, BERLIN, moment), offset)
            self.assertEqual(local_of(GREGORIAN, BERLIN, moment), moment + offset)
        self.assertEqual(next_move(GREGORIAN, BERLIN, self.spring - 1), (self.spring, 120))
        self.assertEqual(next_move(GREGORIAN, BERLIN, self.spring), (self.autumn, 60))
        self.assertEqual(date_of(GREGORIAN, next_move(GREGORIAN, BERLIN, -10 ** 30)[0] // 1440), (1996, 3, 31))
        self.assertIsNone(next_move(GREGORIAN, UTC, 5))
        self.assertEqual(next_move(GREGORIAN, (0, ((7, 5),), None), 6), (7, 5))
        self.assertIsNone(next_move(GREGORIAN, (0, ((7, 5),), None), 7))

    def test_a_local_time_that_is_not(self):
        local = self.spring + 60 + 30
        for way, moments in (("both", []), ("first", []), ("last", []), ("later", [local - 60]), ("earlier", [local - 120])):
            self.assertEqual(moments_of(GREGORIAN, BERLIN, local, way), moments)
        for way in WAYS:
            self.assertEqual(moments_of(GREGORIAN, BERLIN, self.spring + 59, way), [self.spring - 1])
            self.assertEqual(moments_of(GREGORIAN, BERLIN, self.spring + 120, way), [self.spring])

    def test_a_local_time_that_is_twice(self):
        local = self.autumn + 60 + 30
        one, two = local - 120, local - 60
        for way, moments in (("both", [one, two]), ("first", [one]), ("last", [two]), ("later", [one]), ("earlier", [two])):
            self.assertEqual(moments_of(GREGORIAN, BERLIN, local, way), moments)
        for way in WAYS:
            self.assertEqual(moments_of(GREGORIAN, BERLIN, self.autumn + 59, way), [self.autumn - 61])
            self.assertEqual(moments_of(GREGORIAN, BERLIN, self.autumn + 120, way), [self.autumn + 60])

    def test_far_years(self):
        for year in (10 ** 20 * 400 + 2026, 10 ** 6 * 400 + 2026):
            day = day_of(GREGORIAN, year, 3, 29)
            self.assertEqual(offset_at(GREGORIAN, BERLIN, day * 1440 + 59), 60)
            self.assertEqual(offset_at(GREGORIAN, BERLIN, day * 1440 + 60), 120)
            self.assertEqual(moments_of(GREGORIAN, BERLIN, day * 1440 + 150, "later"), [day * 1440 + 90])

    def test_offset_days(self):
        for minute, first in ((59, 1), (60, 0)):
            rows = offset_days(GREGORIAN, BERLIN, minute)
            self.assertEqual([offset for offset, _ in rows], [60, 120])
            self.assertEqual(len(rows[1][1][4][1]), 800)
            day = self.spring // 1440 + first
            self.assertEqual([holds(rows[1][1], x) for x in (day - 1, day)], [False, True])
            self.assertEqual(rows[0][1][0], (1, (), True))
        self.assertEqual(offset_days(GREGORIAN, UTC, 0), [(0, ALL)])
        rows = offset_days(GREGORIAN, (7, ((1440, -5),), None), 0)
        self.assertEqual(rows, [(-5, (NOTHING, 1, (), 1, (1, (), True))), (7, ((1, (), True), 1, (), 1, NOTHING))])

    def test_days_at_local_minutes(self):
        day = self.spring // 1440
        told = days_at(GREGORIAN, single([day - 1, day, day + 1]), 150, BERLIN, "later")
        self.assertEqual(told, ((0, EMPTY), (30, single([day + 1])), (31, EMPTY), (90, single([day - 1, day])), (91, EMPTY)))
        told = days_at(GREGORIAN, single([day]), 150, BERLIN, "both")
        self.assertEqual(told, NEVER)
        night = days_at(GREGORIAN, ALL, 30, BERLIN, "both")
        self.assertEqual([minute for minute, _ in night], [0, 1350, 1351, 1410, 1411])
        self.assertEqual(moment_next(GREGORIAN, night, day * 1440), day * 1440 + 1350)
        self.assertEqual(days_at(GREGORIAN, periodic(7, [1]), 600, UTC, "both"), ((0, EMPTY), (600, periodic(7, [1])), (601, EMPTY)))
        self.assertEqual(days_at(GREGORIAN, single([5]), 1439, UTC, "last"), ((0, EMPTY), (1439, single([5]))))

    def test_a_minute_that_the_day_does_not_have(self):
        for minute in (1440, 1999):
            for way in WAYS:
                self.assertEqual(days_at(GREGORIAN, ALL, minute, BERLIN, way), NEVER)
        self.assertNotEqual(days_at(((1,), 1, 0, (), 1, 0, 2000), ALL, 1999, UTC, "both"), NEVER)

    def test_local_days(self):
        day = self.spring // 1440
        for moment, told in ((day * 1440 + 59, day), (day * 1440 - 60, day), (day * 1440 - 61, day - 1),
                             (day * 1440 + 1319, day), (day * 1440 + 1320, day + 1)):
            self.assertEqual(local_days(GREGORIAN, moments_between(GREGORIAN, moment, moment), BERLIN), single([told]))
        self.assertEqual(local_days(GREGORIAN, ALWAYS, BERLIN), ALL)
        self.assertEqual(local_days(GREGORIAN, NEVER, BERLIN), EMPTY)
        # A whole day is left out, and one is there twice.
        zone = (-720, ((1440 * 10, 720), (1440 * 20, -720)), None)
        self.assertIsNone(zone_word(GREGORIAN, zone))
        self.assertEqual(local_days(GREGORIAN, ALWAYS, zone), ALL)
        zone = (-720, ((1440 * 10 + 720, 720), (1440 * 20 + 720, -720)), None)
        self.assertFalse(holds(local_days(GREGORIAN, ALWAYS, zone), 10))
        self.assertEqual(days_at(GREGORIAN, single([10]), 600, zone, "both"), NEVER)
        self.assertEqual(moments_of(GREGORIAN, zone, 14400 + 600, "later"), [14400 + 1320])
        self.assertEqual(moments_of(GREGORIAN, zone, 14400 + 600, "earlier"), [14400 - 120])

    def test_many_offsets_that_are_one_minute(self):
        # Offsets that differ by a day give the same minute of neighbouring days.
        minutes = 10
        calendar = ((30,), 1, 0, (), 1, 0, minutes)
        zone = (0, ((20, 10), (60, 0), (100, -10), (140, 0)), None)
        self.assertIsNone(zone_word(calendar, zone))
        told = days_at(calendar, ALL, 3, zone, "both")
        self.assertEqual([minute for minute, _ in told], [0, 3, 4])
        self.assertFalse(holds(local_days(calendar, ALWAYS, zone), 2))


    def test_moves_just_two_days_apart(self):
        minutes = 10
        calendar = ((30,), 1, 0, (), 1, 0, minutes)
        zone = (3, ((0, -5), (20, 5), (40, -5), (60, 4), (80, 10), (100, 0), (120, 10)), None)
        self.assertIsNone(zone_word(calendar, zone))
        offset = {u: offset_at(calendar, zone, u) for u in range(-100, 300)}
        for way in WAYS:
            for minute in range(minutes):
                told = days_at(calendar, (NOTHING, -5, ((-5, 20),), 20, NOTHING), minute, zone, way)
                members = {u for day in range(-5, 20) for u in moments_of(calendar, zone, day * minutes + minute, way)}
                self.assertEqual({u for u in offset if moment_holds(calendar, told, u)}, members)
        for local in range(-50, 250):
            answers = [u for u in offset if u + offset[u] == local]
            self.assertEqual(moments_of(calendar, zone, local, "both"), answers)
            if not answers:
                (ahead, behind), = [(offset[m - 1], q) for m, q in zone[1] if m + offset[m - 1] <= local < m + q]
                self.assertEqual(moments_of(calendar, zone, local, "later"), [local - ahead])
                self.assertEqual(moments_of(calendar, zone, local, "earlier"), [local - behind])


class TooLargeZonesTest(unittest.TestCase):

    def test_just_as_the_list_is(self):
        calendar = ((50, 50), 1, 0, (), 1, 0, 10)
        zone = (0, (), (0, ((1, 1, None, 0, 0), (2, 1, None, 0, 5))))
        outcomes = set()
        for many in range(19980, 20004, 2):
            runs = tuple((200 + 2 * k, 200 + 2 * k + 1) for k in range(many // 2))
            one = (NOTHING, 0, runs, 10 ** 5, NOTHING)
            other = (NOTHING, 0, tuple((2 * 10 ** 5 + 2 * k, 2 * 10 ** 5 + 2 * k + 1) for k in range(8000)), 10 ** 6, NOTHING)
            for rows, ask in (
                ([one], lambda: days_at(calendar, one, 3, zone, "later")),
                ([one], lambda: days_at(calendar, one, 1999, zone, "later")),
                ([one, other], lambda: local_days(calendar, ((0, one), (5, other)), zone)),
            ):
                large = measure([*rows, *[days for _, days in offset_days(calendar, zone, 0)]]) > 40000
                outcomes.add((len(rows), large))
                if large:
                    with self.assertRaises(TooLarge):
                        ask()
                else:
                    ask()
        self.assertTrue({(1, False), (2, True)} <= outcomes)

    def test_at_the_bound(self):
        # UTC has one dayset without borders: the dayset alone counts.
        runs = tuple((2 * k, 2 * k + 1) for k in range(20001))
        one, two = (NOTHING, 0, runs[:20000], 39999, NOTHING), (NOTHING, 0, runs, 40001, NOTHING)
        self.assertEqual(len(days_at(GREGORIAN, one, 5, UTC, "both")), 3)
        self.assertEqual(local_days(GREGORIAN, ((0, one),), UTC), one)
        for ask in (lambda: days_at(GREGORIAN, two, 5, UTC, "both"), lambda: days_at(GREGORIAN, two, 1999, UTC, "both"),
                    lambda: local_days(GREGORIAN, ((0, two),), UTC)):
            with self.assertRaises(TooLarge):
                ask()
        half = (NOTHING, 0, runs[:10000], 19999, NOTHING)
        local_days(GREGORIAN, ((0, half), (3, EMPTY), (5, half)), UTC)
        with self.assertRaises(TooLarge):
            local_days(GREGORIAN, ((0, half), (3, single([7])), (5, half)), UTC)

    def test_the_offsets_at_the_minute_0(self):
        # From day 6 to day 8 the offset at the minute 0 is another one; at the minute 1 it is so from day 5 on.
        zone = (0, ((5 * 1440 + 1, 60), (8 * 1440, 0)), None)
        for first, large in ((5, False), (6, True)):
            side = (10 ** 6, (first, *range(10, 10 + 2 * 19996, 2), 50001), False)
            self.assertEqual(len(side[1]), 19998)
            one = (side, 0, (), 0, side)
            for ask in (lambda: days_at(GREGORIAN, one, 1, zone, "both"), lambda: local_days(GREGORIAN, ((0, one),), zone)):
                if large:
                    with self.assertRaises(TooLarge):
                        ask()
                else:
                    ask()

    def test_common_multiples(self):
        # 146,097 is 3 times 48,699: the common multiple with 10 ** 12 is above 10 ** 12.
        for ask in (lambda: days_at(GREGORIAN, periodic(10 ** 12, [0]), 5, BERLIN, "both"),
                    lambda: local_days(GREGORIAN, ((0, periodic(10 ** 12, [0])),), BERLIN),
                    lambda: days_at(GREGORIAN, periodic(7, [0]), 5, BERLIN, "both")):
            with self.assertRaises(TooLarge):
                ask()
        self.assertEqual(days_at(GREGORIAN, periodic(10 ** 12, [0]), 5, UTC, "both")[1], (5, periodic(10 ** 12, [0])))


if __name__ == "__main__":
    unittest.main()
