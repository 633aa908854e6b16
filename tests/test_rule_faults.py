"""Points 20 and 23: what a rule is, and the fault of a rule."""

import unittest

from everydue.rules import rule_fault
from tests.odd_values import deep

WORDS = ("unit", "interval", "anchor", "lists", "places", "since", "until", "number")

GOOD = ("month", 3, -7, (("months", (1, -1)), ("weekdays", (0, 13))), (1, -2), 5, 90, 10)

DEEP = [deep(tuple, 20000), deep(list, 20000)]

WRONG = {
    "unit": [None, True, 0, "", "days", "Day", "month ", (), [], ("day",), ["day"], *DEEP],
    "interval": [None, True, False, 0, -1, 1001, 10 ** 30, "1", (1,), [1], *DEEP],
    "anchor": [None, True, False, "0", (), [5], (0,), *DEEP],
    "lists": [
        None, True, 0, "", "months", [], [("days", (1,))], ("days",), ("days", (1,)), (("days", (1,)), None), (("days",),),
        (("days", (1,), 1),), (["days", (1,)],), (("day", (1,)),), ((None, (1,)),), (((), (1,)),), (([], (1,)),),
        # the order, and each at most once
        (("days", (1,)), ("days", (2,))), (("days", (1,)), ("months", (1,))), (("weeks", (1,)), ("weekdays", (1,))),
        (("year weekdays", ((1, 1),)), ("month weekdays", ((1, 1),))),
        # members
        (("days", ()),), (("days", [1]),), (("days", 1),), (("days", None),), (("days", "1"),), (("days", tuple(range(1, 62))),),
        (("days", (1, 1)),), (("days", (-3, 2, -3)),), (("days", (0,)),), (("days", (2001,)),), (("days", (-2001,)),),
        (("days", (True,)),), (("days", (1, False)),), (("days", ("1",)),), (("days", (None,)),), (("days", ((1, 1),)),),
        (("months", (0,)),), (("months", (2001,)),), (("year days", (0,)),), (("year days", (-2001,)),), (("weeks", (0,)),),
        (("weeks", (2001,)),), (("weekdays", (14,)),), (("weekdays", (-1,)),), (("weekdays", (True,)),), (("weekdays", ((0, 1),)),),
        (("weekdays", (3, 3)),), (("month weekdays", (1,)),), (("month weekdays", ((1,),)),), (("month weekdays", ((1, 1, 1),)),),
        (("month weekdays", ([1, 1],)),), (("month weekdays", ((14, 1),)),), (("month weekdays", ((-1, 1),)),),
        (("month weekdays", ((1, 0),)),), (("month weekdays", ((1, 401),)),), (("month weekdays", ((1, -401),)),),
        (("month weekdays", ((True, 1),)),), (("month weekdays", ((1, True),)),), (("month weekdays", ((1, None),)),),
        (("month weekdays", ((1, 1), (1, 1))),), (("year weekdays", ((1, 0),)),), (("year weekdays", ((14, 1),)),),
        (("year weekdays", (5,)),), *DEEP, *[(value,) for value in DEEP], *[(("days", value),) for value in DEEP],
        *[(("days", (value,)),) for value in DEEP], *[((value, (1,)),) for value in DEEP],
        *[(("year weekdays", (value,)),) for value in DEEP], *[(("year weekdays", ((1, value),)),) for value in DEEP],
    ],
    "places": [
        None, True, 0, 1, "", "1", [], [1], (0,), (401,), (-401,), (1, 1), (1, -1, 2, -1), (True,), (None,), ("1",), ((1,),), ([1],),
        tuple(range(1, 14)), (10 ** 30,), *DEEP, *[(value,) for value in DEEP],
    ],
    "since": [True, False, "", "5", (), (5,), [], *DEEP],
    "until": [True, False, "", "5", (), (5,), [], *DEEP],
    "number": [True, False, 0, -1, 10 ** 9 + 1, 10 ** 30, "", "5", (), [5], *DEEP],
}


def with_member(word, value, rule=GOOD):
    place = WORDS.index(word)
    return (*rule[:place], value, *rule[place + 1:])


class RuleFaultTest(unittest.TestCase):

    def test_no_fault(self):
        self.assertIsNone(rule_fault(GOOD))
        for unit in ("day", "week", "month", "year"):
            self.assertIsNone(rule_fault((unit, 1, 0, (), (), None, None, None)))
        for word, values in (
            ("interval", (1, 1000)),
            ("anchor", (10 ** 30, -10 ** 30, 0)),
            ("places", ((), (400, -400), tuple(range(1, 13)))),
            ("since", (0, -10 ** 30)),
            ("until", (None, 0, 4, -10 ** 30)),
            ("number", (None, 1, 10 ** 9)),
            ("lists", ((), (("days", (2000, -2000)),), (("days", tuple(range(1, 61))),), (("weekdays", tuple(range(14))),),
                       (("month weekdays", ((13, 400), (0, -400))),), (("year weekdays", ((0, 1), (0, -1), (1, 1))),))),
        ):
            for value in values:
                self.assertIsNone(rule_fault(with_member(word, value)), (word, value))

    def test_all_lists(self):
        one, pair = (5, -5), ((5, -5), (3, 1))
        lists = (("months", one), ("days", one), ("year days", one), ("weekdays", (5,)), ("month weekdays", pair),
                 ("year weekdays", pair), ("weeks", one))
        self.assertIsNone(rule_fault(with_member("lists", lists)))
        for place in range(7):
            self.assertIsNone(rule_fault(with_member("lists", (*lists[:place], *lists[place + 1:]))))
            self.assertEqual(rule_fault(with_member("lists", (*lists, lists[place]))), "lists")

    def test_each_member_wrong(self):
        for word, values in WRONG.items():
            for value in values:
                self.assertEqual(rule_fault(with_member(word, value)), word)

    def test_the_first_word_applies(self):
        for index, first in enumerate(WORDS):
            for second in WORDS[index + 1:]:
                for value in WRONG[first][:4]:
                    for other in WRONG[second][:4]:
                        self.assertEqual(rule_fault(with_member(first, value, with_member(second, other))), first)

    def test_a_number_without_since(self):
        for number in (1, 10 ** 9, 0, "5", True):
            self.assertEqual(rule_fault(with_member("since", None, with_member("number", number))), "number")
            self.assertEqual(rule_fault(with_member("since", "5", with_member("number", number))), "since")
        self.assertIsNone(rule_fault(with_member("since", None, with_member("number", None))))
        self.assertEqual(rule_fault(with_member("since", None, with_member("until", "5"))), "until")


if __name__ == "__main__":
    unittest.main()
