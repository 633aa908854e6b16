"""Points 1, 3 and 4: what a calendar is, its cycles, and its fault."""

import unittest

from everydue.calendars import GREGORIAN, calendar_fault, cycle_of, date_of, is_long
from tests.odd_values import deep
from tests.plain_calendar import ALL_CALENDARS, LITTLE, plain_cycle, plain_long

WORDS = ("months", "longer", "extra", "rules", "week", "first", "minutes")


# Values that no member of a calendar may be.
ODD = [
    None, True, False, "", "7", "months", [], [3], (True,), (None,), ((),), [[31]], (31, "28"), (31, None),
    (31, True), (4, True), ((4, True), 5), (1, 2, (3,)), deep(tuple, 20000), deep(list, 20000),
    -1, 10 ** 30, -10 ** 30,
]

# For each member, values that it may not have and the least and greatest ones that it may have.
WRONG = {
    "months": [(), (0,), (61,), (31, 0), (31, -1), (1,) * 25, [31, 28], (31, "28"), (31, (28,)), 31],
    "longer": [0, -1, 13, 14, (2,), [2], "2", True],
    "extra": [-1, 31, "1", True, False, None, (1,), [1]],
    "rules": [
        [], [(4, True)], ((4, True),) * 7, ((0, True),), ((-4, True),), ((1001, True),), ((4, 1),), ((4, 0),),
        ((4, None),), ((4, "True"),), ((4,),), ((4, True, True),), ([4, True],), (4, True), ((True, True),),
        (("4", True),), ((4, True), ()), ((4, True), (100, 2)), (None,), None, "rules", 4,
    ],
    "week": [0, -7, 15, "7", True, None, (7,), [7]],
    "first": [-1, 7, 8, "5", True, False, None, (5,)],
    "minutes": [0, -1, 2001, "1440", True, None, (1440,)],
}

RIGHT = {
    "months": [(1,) * 12, (60,) * 24, (1, 60) * 6],
    "longer": [1, 2, 12],
    "extra": [0, 30],
    "rules": [(), ((1, True),), ((1, False),) * 6, ((4, True), (4, True)), ((1000, False), (1, True))],
    "week": [6, 7, 14],
    "first": [0, 6],
    "minutes": [1, 2000],
}

# Its months are so short that no rule makes its great cycle too long.
PLAIN = ((1, 2) * 6, 2, 1, ((4, True),), 7, 5, 1440)


def with_member(calendar, word, value):
    place = WORDS.index(word)
    return (*calendar[:place], value, *calendar[place + 1:])


class CalendarFaultTest(unittest.TestCase):

    def test_gregorian_is_the_calendar_of_point_1(self):
        months = (31, 28, 31, 30, 31, 30, 31, 31, 30, 31, 30, 31)
        self.assertEqual(GREGORIAN, (months, 2, 1, ((4, True), (100, False), (400, True)), 7, 5, 1440))
        self.assertIsInstance(GREGORIAN, tuple)

    def test_calendars_without_fault(self):
        for calendar in ALL_CALENDARS:
            self.assertIsNone(calendar_fault(calendar), calendar)

    def test_members_at_their_bounds(self):
        for word, values in RIGHT.items():
            for value in values:
                self.assertIsNone(calendar_fault(with_member(PLAIN, word, value)), (word, value))

    def test_each_member_wrong_in_each_way(self):
        for word, values in WRONG.items():
            for value in values:
                self.assertEqual(calendar_fault(with_member(PLAIN, word, value)), word, value)

    def test_values_of_other_kinds(self):
        for word in WORDS:
            for value in ODD:
                self.assertEqual(calendar_fault(with_member(PLAIN, word, value)), word)

    def test_true_is_no_integer_even_where_one_is_right(self):
        calendar = ((1,), 1, 1, ((1, True),), 2, 1, 1)
        self.assertIsNone(calendar_fault(calendar))
        for word in ("longer", "extra", "first", "minutes"):
            self.assertEqual(calendar_fault(with_member(calendar, word, True)), word)
        self.assertEqual(calendar_fault(with_member(calendar, "months", (True,))), "months")
        self.assertEqual(calendar_fault(with_member(calendar, "rules", ((True, True),))), "rules")
        self.assertEqual(calendar_fault(((1,), 1, 0, (), True, 0, 1)), "week")
        self.assertEqual(calendar_fault(((1,), 1, False, (), 1, 0, 1)), "extra")
        self.assertEqual(calendar_fault(((1,), 1, 0, (), 1, False, 1)), "first")

    def test_of_two_wrong_members_the_first_word_applies(self):
        for place, one in enumerate(WORDS):
            for two in WORDS[place + 1:]:
                for value in WRONG[one][:4]:
                    for other in WRONG[two][:4]:
                        calendar = with_member(with_member(PLAIN, one, value), two, other)
                        self.assertEqual(calendar_fault(calendar), one, (value, two, other))

    def test_all_members_wrong(self):
        self.assertEqual(calendar_fault((None,) * 7), "months")
        self.assertEqual(calendar_fault(((1,),) + (None,) * 6), "longer")

    def test_longer_goes_up_to_the_number_of_months(self):
        for many in range(1, 25):
            calendar = ((2,) * many, many, 0, (), 7, 0, 9)
            self.assertIsNone(calendar_fault(calendar))
            self.assertEqual(calendar_fault(with_member(calendar, "longer", many + 1)), "longer")

    def test_first_goes_up_to_week_minus_1(self):
        for week in range(1, 15):
            self.assertIsNone(calendar_fault(((2,), 1, 0, (), week, week - 1, 9)))
            self.assertEqual(calendar_fault(((2,), 1, 0, (), week, week, 9)), "first")

    def test_great_cycle_of_just_400000_days(self):
        # 80,000 years of 5 days.
        rules = ((128, False), (625, False))
        self.assertIsNone(calendar_fault(((5,), 1, 0, rules, 1, 0, 1)))
        self.assertEqual(cycle_of(((5,), 1, 0, rules, 1, 0, 1)), (80000, 400000))
        self.assertIsNone(calendar_fault(((5,), 1, 30, rules, 10, 0, 1)))
        self.assertIsNone(calendar_fault(((4,), 1, 1, (*rules, (1, True)), 1, 0, 1)))

    def test_great_cycle_of_more_days(self):
        rules = ((128, False), (625, False))
        self.assertEqual(calendar_fault(((5,), 1, 0, rules, 3, 0, 1)), "cycle")
        self.assertEqual(calendar_fault(((6,), 1, 0, rules, 1, 0, 1)), "cycle")
        # 21,053 years of 19 days are 400,001 days.
        self.assertEqual(calendar_fault(((19,), 1, 0, ((37, True), (569, True)), 1, 0, 1)), "cycle")

    def test_long_years_count_for_the_great_cycle(self):
        # 1000 years of 400 days, and one day more if one of them is long.
        months = (60,) * 6 + (40,)
        self.assertIsNone(calendar_fault((months, 1, 1, ((1000, False),), 1, 0, 1)))
        self.assertEqual(calendar_fault((months, 1, 1, ((1000, True),), 1, 0, 1)), "cycle")
        self.assertIsNone(calendar_fault((months, 1, 0, ((1000, True),), 1, 0, 1)))
        # 1000 years of 399 days, all of them but one long, or all.
        months = (60,) * 6 + (39,)
        self.assertEqual(cycle_of((months, 7, 1, ((1, True), (1000, False)), 1, 0, 1)), (1000, 399999))
        self.assertEqual(cycle_of((months, 7, 1, ((1000, False), (1, True)), 1, 0, 1)), (1000, 400000))
        self.assertIsNone(calendar_fault((months, 7, 1, ((1000, False), (1, True)), 1, 0, 1)))
        self.assertEqual(calendar_fault((months, 7, 2, ((1, True), (1000, False)), 1, 0, 1)), "cycle")

    def test_the_week_counts_for_the_great_cycle(self):
        # 30,770 days make 400,010 with a week of 13; 30,600 make 397,800; 40,001 are a multiple of 13.
        self.assertEqual(calendar_fault(((10,), 1, 0, ((17, True), (181, True)), 13, 0, 1)), "cycle")
        self.assertIsNone(calendar_fault(((10,), 1, 0, ((17, True), (180, True)), 13, 0, 1)))
        self.assertIsNone(calendar_fault(((13,), 1, 0, ((17, True), (181, True)), 13, 0, 1)))

    def test_very_many_years(self):
        rules = ((997, True), (991, False), (983, True), (977, False), (971, True), (967, False))
        self.assertEqual(calendar_fault(((1,), 1, 30, rules, 14, 0, 1)), "cycle")
        self.assertEqual(calendar_fault(((60,) * 24, 1, 30, rules, 13, 0, 1)), "cycle")
        self.assertEqual(calendar_fault(((60,) * 24, 1, 30, rules, 13, 0, 0)), "minutes")

    def test_nothing_that_is_passed_is_changed(self):
        calendar = ([31, 28], [1], None, [(4, True)], "7", {}, ())
        calendar_fault(calendar)
        self.assertEqual(calendar, ([31, 28], [1], None, [(4, True)], "7", {}, ()))


class CycleTest(unittest.TestCase):

    def test_cycle_of_gregorian(self):
        self.assertEqual(cycle_of(GREGORIAN), (400, 146097))

    def test_cycles_counted_year_by_year(self):
        for calendar in ALL_CALENDARS:
            years, days, many = plain_cycle(calendar)
            told = cycle_of(calendar)
            self.assertEqual(told, (years, days * many), calendar)
            self.assertIs(type(told), tuple)

    def test_cycle_without_rules(self):
        self.assertEqual(cycle_of(((3, 2), 1, 9, (), 7, 0, 1)), (1, 35))
        self.assertEqual(cycle_of(((3, 4), 1, 9, (), 7, 0, 1)), (1, 7))

    def test_cycle_with_all_rules_in_any_order(self):
        divisors = (1, 2, 3, 4, 6, 9)
        for bits in range(64):
            rules = tuple((n, bool(bits >> k & 1)) for k, n in enumerate(divisors))
            for order in (rules, rules[::-1], rules[2:] + rules[:2]):
                calendar = ((2, 1), 2, 3, order, 5, 0, 1)
                years, days, many = plain_cycle(calendar)
                self.assertEqual(cycle_of(calendar), (years, days * many))
                day = 0
                for year in range(years):
                    self.assertEqual(date_of(calendar, day), (year, 1, 1))
                    day += 6 if plain_long(calendar, year) else 3


class LongYearTest(unittest.TestCase):

    def test_gregorian(self):
        for year in (0, 4, 1996, 2000, 2024, -4, -400, 400 * 10 ** 30, 10 ** 30 + 4, -(10 ** 12)):
            self.assertIs(is_long(GREGORIAN, year), True, year)
        for year in (1, 2, 3, 100, 1900, 2100, 2023, -1, -100, -300, 10 ** 30 + 100, 10 ** 30 + 1):
            self.assertIs(is_long(GREGORIAN, year), False, year)

    def test_the_last_rule_that_divides_the_year_tells(self):
        for calendar in ALL_CALENDARS:
            for year in range(-450, 451):
                self.assertIs(is_long(calendar, year), plain_long(calendar, year), (calendar, year))

    def test_later_rules_take_earlier_ones_back(self):
        def told(*rules):
            return [year for year in range(-6, 7) if is_long(((9,), 1, 1, rules, 7, 0, 1), year)]
        self.assertEqual(told(), [])
        self.assertEqual(told((3, True)), [-6, -3, 0, 3, 6])
        self.assertEqual(told((3, True), (2, False)), [-3, 3])
        self.assertEqual(told((2, False), (3, True)), [-6, -3, 0, 3, 6])
        self.assertEqual(told((1, True), (2, False), (4, True)), [-5, -4, -3, -1, 0, 1, 3, 4, 5])
        self.assertEqual(told((2, True), (2, False)), [])

    def test_long_years_repeat_with_the_cycle(self):
        for calendar in LITTLE:
            years = cycle_of(calendar)[0]
            for year in range(-years, years):
                for turns in (1, -1, 10 ** 30, -10 ** 30):
                    self.assertIs(is_long(calendar, year + turns * years), is_long(calendar, year))


if __name__ == "__main__":
    unittest.main()
