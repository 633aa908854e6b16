"""Points 25, 29, 33 and 52, items 4 to 6: what expressions tell."""

import unittest

from everydue.calendars import GREGORIAN, day_of
from everydue.daysets import ALL, EMPTY, normal, periodic, single
from everydue.errors import TooLarge
from everydue.expressions import told
from everydue.joins import combined, meet, moved, other, thinned, union, without
from everydue.minutes import ALWAYS, NEVER, moments_between, moments_least, moments_meet, moments_moved, moments_other
from everydue.minutes import moments_union, moments_without, normal_minutes, room, widened
from everydue.rolls import placed, rolled
from everydue.rules import rule_days
from everydue.zones import UTC, days_at, local_days
from tests.some_sets import EACH, NOTHING
from tests.test_zone_words import BERLIN

ZONES = {"utc": UTC, "berlin": BERLIN}

# Some days and some moments, as answers of entries.
WEEK = periodic(7, [1, 2, 5])
FEW = single([3, 4, 8, 20, 21])
MORNING = ((0, EMPTY), (480, periodic(3, [0])), (600, EMPTY))
EVENING = ((0, single([5])), (540, single([3, 6, 9])), (1200, EMPTY))

ANSWERS = {
    "week": ("days", WEEK), "few": ("days", FEW), "morning": ("moments", MORNING), "evening": ("moments", EVENING),
}
NAME = {name: ("name", name) for name in ANSWERS}
RULE = ("month", 1, 0, (("weekdays", (4,)),), (-1,), 100, None, 7)

ROW = (NOTHING, 0, tuple((2 * k, 2 * k + 1) for k in range(20000)), 39999, NOTHING)
LARGE = ("or", ("set", ROW), ("days", (90000,)))


def tell(expression, answers=ANSWERS):
    return told(GREGORIAN, ZONES, answers, expression)


class ToldTest(unittest.TestCase):

    def assert_days(self, expression, dayset):
        self.assertEqual(tell(expression), ("days", dayset))
        self.assertEqual(normal(dayset), dayset)

    def assert_moments(self, expression, minuteset):
        self.assertEqual(tell(expression), ("moments", minuteset))
        self.assertEqual(normal_minutes(GREGORIAN, minuteset), minuteset)

    def test_alone(self):
        self.assert_days(("rule", RULE), rule_days(GREGORIAN, RULE))
        self.assert_days(("days", (3, 4, 9)), single([3, 4, 9]))
        self.assert_days(("days", ()), EMPTY)
        self.assert_days(("set", ((14, (1, 3, 8, 10), False), 5, (), 5, (7, (1, 3), False))), periodic(7, [1, 2]))
        for name, answer in ANSWERS.items():
            self.assertEqual(tell(("name", name)), answer)

    def test_joins_of_days(self):
        week, few = NAME["week"], NAME["few"]
        self.assert_days(("or", week, few), union(WEEK, FEW))
        self.assert_days(("and", week, few), meet(WEEK, FEW))
        self.assert_days(("without", week, few), without(WEEK, FEW))
        self.assert_days(("not", week), other(WEEK))
        self.assert_days(("moved", few, -10 ** 20), moved(FEW, -10 ** 20))
        for first, last, dayset in ((None, None, FEW), (4, 20, single([4, 8, 20])), (None, 4, single([3, 4])),
                                    (20, None, single([20, 21])), (9, 8, EMPTY)):
            self.assert_days(("between", few, first, last), dayset)
        self.assert_days(("between", week, None, 10 ** 30 * 7), (WEEK[0], 10 ** 30 * 7 + 1, (), 10 ** 30 * 7 + 1, NOTHING))
        rows = [WEEK, FEW, periodic(2, [0])]
        for number in (1, 2, 3):
            self.assert_days(("least", number, (week, few, ("set", rows[2]))), combined(rows, [k >= number for k in range(4)]))
        self.assert_days(("least", 1, (week,)), WEEK)

    def test_joins_of_moments(self):
        one, two = NAME["morning"], NAME["evening"]
        self.assert_moments(("or", one, two), moments_union(GREGORIAN, MORNING, EVENING))
        self.assert_moments(("and", one, two), moments_meet(GREGORIAN, MORNING, EVENING))
        self.assert_moments(("without", one, two), moments_without(GREGORIAN, MORNING, EVENING))
        self.assert_moments(("not", one), moments_other(GREGORIAN, MORNING))
        self.assert_moments(("moved", two, 1000), moments_moved(GREGORIAN, EVENING, 1000))
        self.assert_moments(("least", 2, (one, two, one)), MORNING)
        self.assert_moments(("least", 2, (one, two)), moments_least(GREGORIAN, 2, [MORNING, EVENING]))
        for first, last in ((None, None), (500, 5000), (None, 5000), (5000, None), (5, 4)):
            middle = moments_between(GREGORIAN, first, last)
            self.assert_moments(("between", one, first, last), moments_meet(GREGORIAN, MORNING, middle))

    def test_rolled_placed_and_thinned(self):
        week, few = NAME["week"], NAME["few"]
        for way in ("on", "back", "near"):
            self.assert_days((way, few, week), rolled(FEW, WEEK, way))
            self.assert_days((way, week, few), rolled(WEEK, FEW, way))
        self.assert_days(("place", week, "month", (2, -1)), placed(GREGORIAN, WEEK, "month", (2, -1)))
        self.assert_days(("place", week, "month", ()), EMPTY)
        for unit in ("day", "week", "month", "year"):
            self.assert_days(("place", week, unit, (1, -2)), placed(GREGORIAN, WEEK, unit, (1, -2)))
        self.assert_days(("every", week, 4, 5, 2), thinned(WEEK, 4, 5, 2))

    def test_days_and_moments(self):
        for way in ("both", "first", "last", "later", "earlier"):
            self.assert_moments(("at", NAME["few"], 90, "berlin", way), days_at(GREGORIAN, FEW, 90, BERLIN, way))
        self.assert_moments(("at", NAME["few"], 1999, "utc", "both"), NEVER)
        # The local time 2:30 is not, or is twice, on these days of the year 2026.
        days = (day_of(GREGORIAN, 2026, 3, 29), day_of(GREGORIAN, 2026, 10, 25))
        told_by_ways = []
        for way in ("both", "first", "last", "later", "earlier"):
            expected = days_at(GREGORIAN, single(list(days)), 150, BERLIN, way)
            self.assert_moments(("at", ("days", days), 150, "berlin", way), expected)
            told_by_ways.append(expected)
        self.assertEqual(len(set(told_by_ways)), 5)
        self.assert_days(("local days", NAME["evening"], "berlin"), local_days(GREGORIAN, EVENING, BERLIN))
        self.assert_moments(("wide", NAME["morning"], 7, 2000), widened(GREGORIAN, MORNING, 7, 2000))
        self.assert_moments(("room", NAME["morning"], 60), room(GREGORIAN, MORNING, 60))

    def test_nested(self):
        noon = ("wide", ("at", ("and", NAME["week"], ("not", NAME["few"])), 720, "utc", "both"), 0, 59)
        days = without(WEEK, FEW)
        self.assert_moments(noon, ((0, EMPTY), (720, days), (780, EMPTY)))
        self.assert_days(("local days", ("room", noon, 60), "utc"), days)
        self.assert_days(("local days", ("room", noon, 61), "utc"), EMPTY)
        deep = NAME["few"]
        for k in range(11):
            deep = ("moved", deep, k)
        self.assert_days(deep, moved(FEW, 55))
        self.assert_moments(("or", ("not", NAME["morning"]), NAME["morning"]), ALWAYS)

    def test_nothing_that_is_passed_is_changed(self):
        answers = dict(ANSWERS)
        zones = dict(ZONES)
        told(GREGORIAN, zones, answers, ("or", NAME["week"], ("local days", NAME["morning"], "utc")))
        self.assertEqual((zones, answers), (ZONES, ANSWERS))


class KindsTest(unittest.TestCase):

    def test_what_is_asked_for(self):
        days, moments = NAME["week"], NAME["morning"]
        for name in ("or", "and", "without"):
            self.assertEqual(tell((name, days, moments)), ("kind", 2))
            self.assertEqual(tell((name, moments, days)), ("kind", 2))
        for name in ("on", "back", "near"):
            self.assertEqual(tell((name, moments, days)), ("kind", 1))
            self.assertEqual(tell((name, days, moments)), ("kind", 2))
            self.assertEqual(tell((name, moments, moments)), ("kind", 1))
        for one in (("place", moments, "day", (1,)), ("every", moments, 0, 1, 0), ("at", moments, 0, "utc", "both"),
                    ("local days", days, "utc"), ("wide", days, 0, 0), ("room", days, 1)):
            self.assertEqual(tell(one), ("kind", 1))
        self.assertEqual(tell(("least", 1, (days, days, moments, days))), ("kind", 3))
        self.assertEqual(tell(("least", 1, (moments, days, moments, days))), ("kind", 2))

    def test_the_kind_of_the_first_part(self):
        days, moments = NAME["week"], NAME["morning"]
        # What tells days is told so, whatever stands in it.
        self.assertEqual(tell(("or", ("and", days, moments), moments)), ("kind", 3))
        self.assertEqual(tell(("or", ("not", moments), ("between", days, 1, 2))), ("kind", 3))
        self.assertEqual(tell(("or", moments, ("not", ("moved", ("least", 1, (moments, days)), 4)))), ("kind", 6))
        self.assertEqual(tell(("and", ("on", moments, days), moments)), ("kind", 2))
        self.assertEqual(tell(("and", ("on", days, days), moments)), ("kind", 4))
        self.assertEqual(tell(("wide", ("at", ("local days", days, "utc"), 5, "utc", "both"), 1, 1)), ("kind", 3))
        self.assertEqual(tell(("local days", ("at", days, 5, "utc", "both"), "utc"))[0], "days")

    def test_the_first_place_applies(self):
        days, moments = NAME["week"], NAME["morning"]
        self.assertEqual(tell(("or", ("on", moments, moments), moments)), ("kind", 2))
        self.assertEqual(tell(("or", days, ("or", moments, days))), ("kind", 2))
        self.assertEqual(tell(("or", days, ("or", days, moments))), ("kind", 4))

    def test_kinds_come_ahead_of_what_is_too_large(self):
        self.assertEqual(tell(LARGE), ("large",))
        self.assertEqual(tell(("or", LARGE, NAME["morning"])), ("kind", 4))
        self.assertEqual(tell(("not", LARGE)), ("large",))
        self.assertEqual(tell(("wide", ("at", LARGE, 5, "utc", "both"), 10 ** 30, 0)), ("large",))


class TooLargeToldTest(unittest.TestCase):

    def assert_large(self, expression, answers=ANSWERS):
        self.assertEqual(tell(expression, answers), ("large",))

    def test_each_kind_of_tuple(self):
        row, one = ("set", ROW), ("days", (90000,))
        for name in ("or", "and", "without", "on", "back", "near"):
            self.assert_large((name, row, one))
            self.assertEqual(tell((name, row, ("set", EMPTY)))[0], "days")
        self.assert_large(("least", 1, (one, row)))
        self.assert_large(("least", 3, (("set", EMPTY), one, row)))
        self.assert_large(("rule", ("day", 2, 0, (), (), 0, 10 ** 9, None)))
        self.assert_large(("every", ("set", ALL), -20001, 1, 0))
        self.assert_large(("place", ("days", (0, 10 ** 9)), "month", (1,)))
        self.assert_large(("at", ("set", periodic(10 ** 12, [0])), 5, "berlin", "both"))
        self.assert_large(("local days", ("at", ("set", periodic(10 ** 12, [0])), 5, "utc", "both"), "berlin"))
        self.assert_large(("wide", NAME["morning"], 20 * 1440, 1))
        self.assert_large(("room", NAME["morning"], 20 * 1440 + 2))

    def test_never_too_large(self):
        more = (NOTHING, 0, tuple((2 * k, 2 * k + 1) for k in range(30000)), 59999, NOTHING)
        self.assertEqual(tell(("set", more)), ("days", more))
        self.assertEqual(tell(("not", ("set", more))), ("days", other(more)))
        self.assertEqual(tell(("moved", ("set", more), 7)), ("days", moved(more, 7)))
        self.assertEqual(tell(("name", "more"), {"more": ("days", more)}), ("days", more))

    def test_between(self):
        # The borders of the dayset and of what is between: 40,000, and one or two more.
        row = ("set", (NOTHING, 0, tuple((2 * k, 2 * k + 1) for k in range(19999)), 39997, NOTHING))
        self.assertEqual(tell(("between", row, 5, 39000))[0], "days")
        self.assertEqual(tell(("between", row, -5, 10 ** 9))[0], "days")
        self.assertEqual(tell(("between", ("set", ROW), None, None))[0], "days")
        self.assertEqual(tell(("between", ("set", ROW), 7, 6))[0], "days")
        self.assert_large(("between", ("set", ROW), 7, None))
        self.assert_large(("between", ("set", ROW), None, 10 ** 30))
        self.assert_large(("between", ("set", ROW), -5, -4))

    def test_between_moments(self):
        pairs = tuple((2 * k, (EMPTY, ALL)[k % 2]) for k in range(399))
        answers = {"many": ("moments", pairs)}
        self.assertEqual(tell(("between", ("name", "many"), 1440 * 5, None), answers)[0], "moments")
        self.assertEqual(tell(("between", ("name", "many"), 1440 * 5 + 7, None), answers)[0], "moments")
        self.assertEqual(tell(("between", ("name", "many"), 1440 * 5 + 4, 1440 * 9 + 7), answers)[0], "moments")
        self.assert_large(("between", ("name", "many"), 1440 * 5 + 7, 1440 * 9 + 8), answers)
        self.assertEqual(tell(("between", ("name", "many"), 1440 * 5 + 7, 1440 * 9 + 6), answers)[0], "moments")
        self.assertEqual(tell(("between", ("name", "many"), 9, 7), answers)[0], "moments")

    def test_400_minutes(self):
        pairs = tuple((2 * k, (EMPTY, ALL)[k % 2]) for k in range(400))
        more = ((0, EMPTY), (1, ALL), (2, EMPTY))
        answers = {"many": ("moments", pairs), "more": ("moments", more)}
        for name in ("or", "and", "without"):
            self.assert_large((name, ("name", "many"), ("name", "more")), answers)
            self.assertEqual(tell((name, ("name", "many"), ("name", "many")), answers)[0], "moments")
        self.assert_large(("least", 1, (("name", "many"), ("name", "more"))), answers)
        self.assertEqual(tell(("not", ("name", "many")), answers)[0], "moments")

    def test_too_large_further_in(self):
        for one in (("not", LARGE), ("moved", LARGE, 1), ("between", LARGE, 1, 0), ("least", 1, (("days", (1,)), LARGE)),
                    ("at", LARGE, 1999, "utc", "both"), ("place", LARGE, "day", ()), ("every", LARGE, 10 ** 30, 1, 0)):
            self.assert_large(one)
        with self.assertRaises(TooLarge):
            union(ROW, single([90000]))
        self.assertEqual(tell(("or", ("set", (EACH, 0, (), 0, EACH)), ("set", ROW)))[0], "days")


if __name__ == "__main__":
    unittest.main()
