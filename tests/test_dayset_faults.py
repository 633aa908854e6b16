"""Points 9, 10 and 12: what sides and daysets are, and the fault of a dayset."""

import unittest

from everydue.daysets import ALL, EMPTY, dayset_fault
from tests.odd_values import deep
from tests.plain_sets import EACH, NONE

WORDS = ("left", "low", "runs", "high", "right")

GOOD = ((7, (1, 3), False), -5, ((-4, -2), (0, 1), (3, 9)), 9, (4, (0, 1, 2, 3), True))


DEEP = [deep(tuple, 20000), deep(list, 20000)]

WRONG_SIDES = [
    None, True, False, 0, 7, "side", "abc", (), [], [1, (), False], (1, ()), (1, (), False, 0), (1, (), False, ()),
    # periods
    (0, (), False), (-1, (), True), (-7, (1, 3), False), ("7", (1, 3), False), (None, (), False), (True, (), False),
    ((7,), (1, 3), False), (10 ** 12 + 1, (), False), (10 ** 30, (1, 2), True), (-10 ** 30, (), False),
    # borders
    (7, [], False), (7, [1, 3], False), (7, None, False), (7, 1, False), (7, "", False), (7, "13", False),
    (7, (1,), False), (7, (1, 2, 3), True), (7, (3, 1), False), (7, (1, 1), False), (7, (1, 3, 3, 5), False),
    (7, (1, 3, 2, 5), False), (7, (-1, 3), False), (7, (1, 7), False), (7, (7, 8), False), (7, (0, 10 ** 30), True),
    (7, (False, 3), False), (7, (0, True), False), (7, ("1", 3), False), (7, (1, None), False), (7, (1, (3,)), False),
    (7, (1, [3]), False), (7, ((1, 3),), False), (1, (0, 1), False), (1, (0, 0), False), (2, (0, 1, 2, 3), False),
    # inside
    (7, (1, 3), 0), (7, (1, 3), 1), (7, (1, 3), None), (7, (1, 3), "True"), (7, (), ()), (1, (), 1), (1, (), []),
    *[(value, (1, 3), False) for value in DEEP],
    *[(7, value, False) for value in DEEP],
    *[(7, (1, value), False) for value in DEEP],
    *[(7, (1, 3), value) for value in DEEP],
    *DEEP,
]

RIGHT_SIDES = [
    NONE, EACH, (7, (), False), (10 ** 12, (), True), (10 ** 12, (0, 10 ** 12 - 1), False), (7, (0, 6), True),
    (2, (0, 1), False), (7, (0, 1, 2, 3, 4, 5), False), (4, (0, 1, 2, 3), True), (14, (1, 3, 8, 10), False),
]

WRONG_WHOLES = [None, True, False, "", "0", (), (0,), [], [0], *DEEP]

# Runs that are wrong behind a low of -5.
WRONG_RUNS = [
    None, True, False, 0, "", "runs", [], [(-4, -2)], (0,), (0, 1), ((0, 1), None), ((),), ((0,),), ((0, 1, 2),),
    ([0, 1],), ((0, 1), [2, 3]), (("0", "1"),), ((0, "1"),), ((None, 1),), ((0, True),), ((False, 1),), ((0, (1,)),),
    # the second not greater than the first, or the next not greater than the last
    ((0, 0),), ((1, 0),), ((0, -1),), ((0, 1), (1, 2)), ((0, 2), (1, 3)), ((0, 1), (0, 1)), ((3, 4), (0, 1)),
    ((0, 10 ** 30), (5, 6)), ((-4, -2), (0, 1), (0, 2)), ((-4, -2), (0, 1), (2, 2)),
    # below low
    ((-6, -4),), ((-6, -5),), ((-100, 7),), ((-10 ** 30, 10 ** 30),),
    *DEEP, *[(value,) for value in DEEP], *[((0, value),) for value in DEEP], *[((value, 0),) for value in DEEP],
]


def with_member(word, value, dayset=GOOD):
    place = WORDS.index(word)
    return (*dayset[:place], value, *dayset[place + 1:])


class DaysetFaultTest(unittest.TestCase):

    def test_daysets_without_fault(self):
        self.assertIsNone(dayset_fault(GOOD))
        self.assertIsNone(dayset_fault(EMPTY))
        self.assertIsNone(dayset_fault(ALL))
        self.assertIsNone(dayset_fault((NONE, 5, (), 5, EACH)))
        self.assertIsNone(dayset_fault((NONE, 5, ((5, 6),), 6, EACH)))
        self.assertIsNone(dayset_fault((NONE, -10 ** 30, ((0, 10 ** 29), (10 ** 29 + 1, 10 ** 30)), 10 ** 30, EACH)))

    def test_sides(self):
        for side in RIGHT_SIDES:
            self.assertIsNone(dayset_fault(with_member("left", side)), side)
            self.assertIsNone(dayset_fault(with_member("right", side)), side)
        for side in WRONG_SIDES:
            self.assertEqual(dayset_fault(with_member("left", side)), "left")
            self.assertEqual(dayset_fault(with_member("right", side)), "right")

    def test_low_and_high(self):
        for value in WRONG_WHOLES:
            self.assertEqual(dayset_fault(with_member("low", value)), "low")
            self.assertEqual(dayset_fault(with_member("high", value)), "high")
            self.assertEqual(dayset_fault((NONE, value, (), 0, NONE)), "low")
            self.assertEqual(dayset_fault((NONE, 0, (), value, NONE)), "high")

    def test_runs(self):
        for runs in WRONG_RUNS:
            self.assertEqual(dayset_fault(with_member("runs", runs)), "runs")
        for runs in ((), ((-5, -4),), ((-5, 9),), ((8, 9),), ((-5, -4), (-3, -2), (-1, 9))):
            self.assertIsNone(dayset_fault(with_member("runs", runs)), runs)

    def test_low_behind_the_first_run_is_no_matter_of_low(self):
        self.assertEqual(dayset_fault((NONE, 3, ((2, 5),), 5, NONE)), "runs")
        self.assertIsNone(dayset_fault((NONE, 2, ((2, 5),), 5, NONE)))

    def test_high_ahead_of_low_or_of_the_last_run(self):
        self.assertEqual(dayset_fault((NONE, 3, (), 2, NONE)), "high")
        self.assertIsNone(dayset_fault((NONE, 3, (), 3, NONE)))
        self.assertEqual(dayset_fault(with_member("high", 8)), "high")
        self.assertEqual(dayset_fault(with_member("high", -10 ** 30)), "high")
        self.assertIsNone(dayset_fault(with_member("high", 10 ** 30)))
        self.assertEqual(dayset_fault((NONE, 0, ((1, 5),), 4, NONE)), "high")
        self.assertIsNone(dayset_fault((NONE, 0, ((1, 5),), 5, NONE)))

    def test_of_two_wrong_members_the_first_word_applies(self):
        wrong = {"left": WRONG_SIDES, "low": WRONG_WHOLES, "runs": WRONG_RUNS, "high": WRONG_WHOLES, "right": WRONG_SIDES}
        for place, one in enumerate(WORDS):
            for two in WORDS[place + 1:]:
                for value in wrong[one][:12]:
                    for other in wrong[two][:12]:
                        dayset = with_member(two, other, with_member(one, value))
                        self.assertEqual(dayset_fault(dayset), one, (value, two, other))

    def test_all_members_wrong(self):
        self.assertEqual(dayset_fault((None,) * 5), "left")
        self.assertEqual(dayset_fault((NONE, None, None, None, None)), "low")
        self.assertEqual(dayset_fault((NONE, 0, None, None, None)), "runs")
        self.assertEqual(dayset_fault((NONE, 0, (), None, None)), "high")
        self.assertEqual(dayset_fault((NONE, 0, (), 0, None)), "right")

    def test_40000_borders_and_no_more(self):
        for period in (40000, 10 ** 12):
            most = (period, tuple(range(40000)), False)
            self.assertIsNone(dayset_fault((most, 0, (), 0, most)))
        more = (10 ** 12, tuple(range(40002)), False)
        self.assertEqual(dayset_fault((more, 0, (), 0, NONE)), "left")
        self.assertEqual(dayset_fault((NONE, 0, (), 0, more)), "right")
        wrong = (10 ** 12, (*range(39999), 39998), False)
        self.assertEqual(dayset_fault((NONE, 0, (), 0, wrong)), "right")

    def test_40000_runs_and_no_more(self):
        most = tuple((10 ** 20 * k, 10 ** 20 * k + 7) for k in range(40000))
        self.assertIsNone(dayset_fault((NONE, 0, most, 10 ** 25, NONE)))
        more = tuple((3 * k, 3 * k + 1) for k in range(40001))
        self.assertEqual(dayset_fault((NONE, 0, more, 10 ** 25, NONE)), "runs")
        wrong = (*most[:-1], most[-2])
        self.assertEqual(dayset_fault((NONE, 0, wrong, 10 ** 25, NONE)), "runs")

    def test_nothing_that_is_passed_is_changed(self):
        dayset = ([7, [1, 3], False], [0], [[1, 2]], {}, [])
        dayset_fault(dayset)
        dayset_fault(((7, [1, 3], False), 0, [[1, 2]], 3, NONE))
        self.assertEqual(dayset, ([7, [1, 3], False], [0], [[1, 2]], {}, []))


if __name__ == "__main__":
    unittest.main()
