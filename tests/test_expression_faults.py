"""Points 25, 26 and 51: what an expression is, its fault, its tuples, and what it speaks of."""

import unittest

from everydue.daysets import ALL, EMPTY
from everydue.expressions import expression_fault, speaks_of, tuples_of
from tests.odd_values import deep

A = ("days", (1, 5))
B = ("name", "b")
RULE = ("month", 1, 0, (), (1,), None, None, None)

GOOD = [
    ("rule", RULE),
    ("days", ()), ("days", (5,)), ("days", (-10 ** 30, 0, 10 ** 30)), ("days", tuple(range(200))),
    ("set", EMPTY), ("set", ALL), ("set", ((14, (1, 3, 8, 10), False), 5, (), 5, (7, (), True))),
    ("name", "a"), ("name", "abcdefghijkl"), ("name", "z"),
    ("or", A, B), ("and", A, B), ("without", A, B), ("not", A), ("least", 1, (A,)), ("least", 12, (A,) * 12), ("least", 2, (A, B, A)),
    ("moved", A, 0), ("moved", A, -10 ** 30), ("between", A, None, None), ("between", A, 5, 4), ("between", A, -10 ** 30, None),
    ("on", A, B), ("back", A, B), ("near", A, B),
    ("place", A, "day", ()), ("place", A, "week", (1,)), ("place", A, "month", (400, -400)), ("place", A, "year", tuple(range(1, 13))),
    ("every", A, 10 ** 30, 1, 0), ("every", A, 0, 1000, 999),
    ("at", A, 0, "utc", "both"), ("at", A, 1999, "abcdefghijkl", "first"), ("at", A, 7, "u", "last"), ("at", A, 7, "u", "later"),
    ("at", A, 7, "u", "earlier"), ("local days", A, "utc"),
    ("wide", A, 0, 0), ("wide", A, 10 ** 30, 10 ** 30), ("room", A, 1), ("room", A, 10 ** 30),
]

DEEP = [deep(tuple, 20000), deep(list, 20000)]

ODD = [None, True, False, 0, 7, "", "days", (), [], ["days", (1,)], *DEEP]

# What is wrong in itself.
WRONG = [
    *ODD, ("days",), ("foo", A), (None, A), (True, A), (0, A), (("not",), A), ([], A), ("Not", A), ("not ", A), ("rules", RULE),
    *[(value, A) for value in DEEP],
    # too few and too many members
    ("rule",), ("rule", RULE, 0), ("days", (1,), 0), ("set", ALL, 0), ("name",), ("name", "a", "b"), ("or", A), ("or", A, B, A), ("and", A),
    ("without", A, B, None), ("not",), ("not", A, B), ("least", 1), ("least", 1, (A,), 0), ("moved", A), ("moved", A, 1, 2),
    ("between", A, 1), ("between", A, 1, 2, 3), ("on", A), ("back", A), ("near", A, B, 0), ("place", A, "day"), ("place", A, "day", (), 0),
    ("every", A, 0, 1), ("every", A, 0, 1, 0, 0), ("at", A, 0, "utc"), ("at", A, 0, "utc", "both", 0), ("local days", A), ("wide", A, 0),
    ("wide", A, 0, 0, 0), ("room", A), ("room", A, 1, 1),
    # rules, days, sets and names
    ("rule", None), ("rule", ()), ("rule", RULE[:7]), ("rule", (*RULE, 0)), ("rule", list(RULE)), ("rule", ("months", *RULE[1:])),
    ("rule", (*RULE[:7], 5)), ("days", None), ("days", [1]), ("days", 1), ("days", "12"), ("days", (1, 1)), ("days", (2, 1)),
    ("days", (1, 3, 2)), ("days", (True,)), ("days", (0, True)), ("days", (None,)), ("days", ("1",)), ("days", ((1,),)),
    ("days", tuple(range(201))), ("set", None), ("set", ()), ("set", EMPTY[:4]), ("set", (*EMPTY, 0)), ("set", list(EMPTY)),
    ("set", (*EMPTY[:3], -1, EMPTY[4])), ("set", ((10 ** 12 + 1, (), False), *EMPTY[1:])), ("name", ""), ("name", "abcdefghijklm"),
    ("name", "A"), ("name", "a b"), ("name", "a1"), ("name", "-"), ("name", "\u00e4"), ("name", None), ("name", 5), ("name", True),
    ("name", ("a",)), ("name", ["a"]), ("name", "a\n"),
    # numbers
    ("least", 0, (A,)), ("least", 2, (A,)), ("least", 13, (A,) * 13), ("least", 1, (A,) * 13), ("least", 1, ()), ("least", 1, [A]),
    ("least", 1, A[0]), ("least", True, (A,)), ("least", None, (A,)), ("least", "1", (A,)), ("least", 1, None), ("moved", A, None),
    ("moved", A, True), ("moved", A, "1"), ("moved", A, (1,)), ("between", A, True, 1), ("between", A, 1, False), ("between", A, "1", 2),
    ("between", A, 1, (2,)), ("between", A, [], None),
    ("place", A, "days", (1,)), ("place", A, None, (1,)), ("place", A, "week", (0,)), ("place", A, "week", (401,)),
    ("place", A, "week", (1, 1)), ("place", A, "week", [1]), ("place", A, "week", (True,)), ("place", A, "week", tuple(range(1, 14))),
    ("place", A, "week", None), ("place", A, ("week",), (1,)),
    ("every", A, None, 1, 0), ("every", A, True, 1, 0), ("every", A, 0, 0, 0), ("every", A, 0, 1001, 0), ("every", A, 0, True, 0),
    ("every", A, 0, 5, 5), ("every", A, 0, 5, -1), ("every", A, 0, 5, False), ("every", A, 0, 5, None), ("every", A, 0, None, 0),
    ("at", A, -1, "utc", "both"), ("at", A, 2000, "utc", "both"), ("at", A, True, "utc", "both"), ("at", A, None, "utc", "both"),
    ("at", A, 5, "UTC", "both"), ("at", A, 5, "", "both"), ("at", A, 5, None, "both"), ("at", A, 5, "utc", "all"), ("at", A, 5, "utc", None),
    ("at", A, 5, "utc", ("both",)), ("at", A, 5, "utc", []), ("local days", A, ""), ("local days", A, None), ("local days", A, "Utc"),
    ("wide", A, -1, 0), ("wide", A, 0, -1), ("wide", A, True, 0), ("wide", A, 0, None), ("wide", A, "1", 0), ("room", A, 0), ("room", A, -1),
    ("room", A, True), ("room", A, None), ("room", A, "1"),
    *[("days", value) for value in DEEP], *[("days", (value,)) for value in DEEP], *[("set", value) for value in DEEP],
    *[("rule", value) for value in DEEP], *[("name", value) for value in DEEP], *[("at", A, 5, "utc", value) for value in DEEP],
    *[("place", A, value, (1,)) for value in DEEP], *[("least", 1, value) for value in DEEP if type(value) is list],
]

# With one expression in it, and two.
AROUND = [
    lambda a: ("not", a), lambda a: ("moved", a, 1), lambda a: ("between", a, 1, 2), lambda a: ("place", a, "day", ()),
    lambda a: ("every", a, 0, 1, 0), lambda a: ("at", a, 0, "u", "both"), lambda a: ("local days", a, "u"), lambda a: ("wide", a, 1, 2),
    lambda a: ("room", a, 1), lambda a: ("least", 1, (a,)),
]
TWO = [lambda a, b, name=name: (name, a, b) for name in ("or", "and", "without", "on", "back", "near")]


def nested(expression, times):
    for _ in range(times):
        expression = ("not", expression)
    return expression


class ExpressionFaultTest(unittest.TestCase):

    def test_no_fault(self):
        for one in GOOD:
            self.assertIsNone(expression_fault(one), one)
            for around in AROUND:
                self.assertIsNone(expression_fault(around(one)))
            for two in TWO:
                self.assertIsNone(expression_fault(two(one, one)))

    def test_wrong_at_the_outer_place(self):
        for one in WRONG:
            self.assertEqual(expression_fault(one), 0)

    def test_wrong_further_in(self):
        for one in WRONG:
            for around in AROUND:
                self.assertEqual(expression_fault(around(one)), 1)
            for two in TWO:
                self.assertEqual(expression_fault(two(one, A)), 1)
                self.assertEqual(expression_fault(two(A, one)), 2)
            self.assertEqual(expression_fault(("or", ("and", A, ("not", B)), one)), 5)
            self.assertEqual(expression_fault(("least", 1, (A, ("not", A), one, A))), 4)

    def test_the_first_place_applies(self):
        wrong = ("foo",)
        self.assertEqual(expression_fault(("or", wrong, wrong)), 1)
        self.assertEqual(expression_fault(("or", ("not", wrong), wrong)), 2)
        self.assertEqual(expression_fault(("moved", wrong, None)), 0)
        self.assertEqual(expression_fault(("least", 1, (A, wrong, wrong))), 2)
        self.assertEqual(expression_fault(("least", 5, (A, wrong, wrong))), 0)

    def test_the_61st_tuple(self):
        # A row of least has one place, and its members.
        def many(number):
            rows = []
            left = number - 1
            while left > 12 - len(rows):
                more = min(12, left - 1)
                rows.append(("least", 1, (A,) * more))
                left -= more + 1
            return ("least", 1, (*rows, *[A] * left))

        for number in (1 + 4, 59, 60):
            self.assertEqual(len(tuples_of(many(number))), number)
            self.assertIsNone(expression_fault(many(number)))
        for number in (61, 62, 100):
            self.assertEqual(expression_fault(many(number)), 60)
        self.assertEqual(expression_fault(("or", many(60), ("foo",))), 61)
        self.assertEqual(expression_fault(("or", many(58), A)), None)
        self.assertEqual(expression_fault(("or", many(59), A)), 60)

    def test_twelve_in_one_another(self):
        self.assertIsNone(expression_fault(nested(A, 11)))
        for times in (12, 13, 50, 20000):
            self.assertEqual(expression_fault(nested(A, times)), 12)
        self.assertEqual(expression_fault(("or", A, nested(A, 11))), 13)
        self.assertEqual(expression_fault(("or", nested(A, 11), A)), 12)
        self.assertEqual(expression_fault(("or", nested(A, 10), nested(A, 11))), 23)
        self.assertIsNone(expression_fault(("or", nested(A, 10), nested(A, 10))))
        # What is wrong in itself comes first, however far in.
        self.assertEqual(expression_fault(nested(("foo",), 50)), 50)
        self.assertEqual(expression_fault(nested(5, 20000)), 20000)

    def test_the_61st_tuple_and_one_too_deep(self):
        row = ("least", 1, (("least", 1, (A,) * 12),) * 4)
        self.assertEqual(len(tuples_of(row)), 53)
        # The deep one lies behind the first 54 places: its tuple at place 66 is the first one in twelve others.
        self.assertEqual(expression_fault(("or", row, nested(A, 20))), 60)
        self.assertEqual(expression_fault(("or", nested(A, 20), row)), 12)
        self.assertEqual(expression_fault(("or", nested(A, 58), A)), 12)
        row = ("least", 1, (("least", 1, (A,) * 12), ("least", 1, (A,) * 12), ("least", 1, (A,) * 12), *[A] * 6))
        self.assertEqual(len(tuples_of(row)), 46)
        self.assertEqual(expression_fault(("or", row, nested(A, 20))), 1 + 46 + 11)


class TuplesTest(unittest.TestCase):

    def test_tuples_in_their_order(self):
        one = ("or", ("not", A), ("least", 1, (B, ("moved", A, 3))))
        self.assertEqual(tuples_of(one), [one, one[1], A, one[2], B, ("moved", A, 3), A])
        self.assertEqual(tuples_of(A), [A])
        for around in AROUND:
            self.assertEqual(tuples_of(around(B)), [around(B), B])
        for two in TWO:
            self.assertEqual(tuples_of(two(B, A)), [two(B, A), B, A])
        self.assertEqual(tuples_of(("rule", RULE)), [("rule", RULE)])

    def test_a_new_list(self):
        told = tuples_of(("not", A))
        told.append(5)
        self.assertEqual(tuples_of(("not", A)), [("not", A), A])

    def test_speaks_of(self):
        self.assertEqual(speaks_of(A), ((), ()))
        self.assertEqual(speaks_of(("name", "x")), (("x",), ()))
        one = ("or", ("at", ("name", "x"), 5, "x", "both"),
               ("and", ("at", ("local days", ("name", "a"), "z"), 7, "b", "later"), ("least", 1, (("name", "b"), ("name", "x")))))
        self.assertEqual(speaks_of(one), (("x", "a", "b"), ("x", "b", "z")))
        self.assertEqual(speaks_of(("without", ("name", "b"), ("name", "a"))), (("b", "a"), ()))
        self.assertEqual(speaks_of(("at", ("local days", ("name", "a"), "zz"), 7, "zz", "later")), (("a",), ("zz",)))


if __name__ == "__main__":
    unittest.main()
