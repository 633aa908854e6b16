"""Points 72, 73 and 75: claims about all time, decided and judged."""

import copy
import random
import unittest

from everydue.calendars import GREGORIAN
from everydue.claims import claim_fault, decide, judge_against, judge_claim
from everydue.daysets import ALL, EMPTY, periodic, single
from everydue.errors import KindsDiffer, NoPaper, TooLarge
from everydue.minutes import moments_between, moments_union, normal_minutes
from everydue.papers import paper_of
from everydue.zones import UTC
from tests.odd_values import deep
from tests.some_sets import NOTHING, calendar_with, moments_within, some_dayset, some_minuteset, within
from tests.test_told import ROW

A, B = ("days", (1, 5)), ("name", "b")

# What may be told as against a claim, or is of another kind.
ODD = [None, True, False, 0, 1, -1, 5, "0", "", (), (0,), (0, 1), (1, 0), (1, 1), (0, None), (True, 5), (1, 5, 6), (5, 1), (1, 5), [1, 5], ((1, 5),)]


class ClaimFaultTest(unittest.TestCase):

    def test_without_a_fault(self):
        for claim in (
            ("in", A, B), ("same", A, A), ("apart", A, B, 1), ("apart", A, B, 1000), ("gap", A, 1), ("gap", A, 1000), ("many", A, 5, 3, -7),
            ("many", A, -10 ** 70, 10 ** 70, 10 ** 70), ("next", A, 0, None), ("next", A, 5, 4), ("next", A, -10 ** 70, 10 ** 70),
            ("in", ("room", A, 5), ("not", ("at", A, 0, "x", "both"))),
        ):
            self.assertIsNone(claim_fault(claim), claim)

    def test_forms(self):
        for claim in (
            None, True, 0, "in", "", (), [], ["in", A, B], deep(tuple, 20000), deep(list, 20000), (deep(tuple, 20000), A, B), ("in",), ("in", A),
            ("in", A, B, 1), ("same", A), ("apart", A, B), ("apart", A, B, 1, 1), ("gap", A), ("gap", A, B, 1), ("many", A, 1, 2),
            ("many", A, 1, 2, 3, 4), ("next", A, 1), ("next", A, 1, 2, 3), ("In", A, B), ("", A, B), (None, A, B), (0, A, B), (("in",), A, B),
            (["in"], A, B), ("out", A, B), ("gap", 7), ("apart", 5, 5),
        ):
            self.assertEqual(claim_fault(claim), "form", str(claim)[:60] if not isinstance(claim, (tuple, list)) else None)

    def test_expressions(self):
        bad = ("foo",)
        for claim in (
            ("in", bad, A), ("in", A, bad), ("same", bad, bad), ("apart", A, bad, 5), ("apart", bad, A, 0), ("apart", A, bad, None), ("gap", bad, 0),
            ("many", bad, None, None, None), ("next", bad, None, None), ("in", None, A), ("in", A, 5), ("gap", True, 5), ("gap", deep(tuple, 20000), 5),
            ("gap", deep(list, 20000), 5), ("gap", [A], 5), ("in", A, ("not", ("not", bad))), ("next", (), 5, 5),
        ):
            self.assertEqual(claim_fault(claim), "expression")

    def test_numbers(self):
        for name, more in (("apart", (A, B)), ("gap", (A,))):
            for k in (0, 1001, -1, None, True, "1", (1,), deep(tuple, 20000)):
                self.assertEqual(claim_fault((name, *more, k)), "number")
        for odd in (None, True, False, "1", (1,), [], deep(list, 20000)):
            for at in range(3):
                numbers = [1, 2, 3]
                numbers[at] = odd
                self.assertEqual(claim_fault(("many", A, *numbers)), "number")
            self.assertEqual(claim_fault(("next", A, odd, 5)), "number")
            self.assertEqual(claim_fault(("next", A, 5, odd)), None if odd is None else "number")


class PlainClaims:
    """What claims tell of the members of two sets in a window, seen from its middle."""

    def __init__(self, one, two, window):
        self.one, self.two, self.window = one, two, window

    def nearest(self, members, x):
        return min(members, key=lambda y: (abs(y - x), -y), default=None)

    def against(self, claim, x):
        """Whether a claim is true, and what is against it, nearest to x."""
        name, one, two = claim[0], self.one, self.two
        if name == "in":
            found = self.nearest(one - two, x)
        elif name == "same":
            found = self.nearest(one ^ two, x)
        elif name == "apart":
            near = {u for u in one if any(v in two for v in range(u - claim[3] + 1, u + claim[3]))}
            u = self.nearest(near, x)
            found = None if u is None else (u, self.nearest(two, u))
        elif name == "gap":
            near = {u for u in one if any(v in one for v in range(u + 1, u + claim[2]))}
            u = self.nearest(near, x)
            found = None if u is None else (u, min(v for v in one if v > u))
        elif name == "many":
            found = len([v for v in range(claim[2], claim[3]) if v in one])
            return found == claim[4], found
        else:
            found = min([v for v in one if v >= claim[2]], default=None)
            return found == claim[3], found
        return found is None, found

    def speaks_against(self, claim, against):
        """Whether a thing of the right kind speaks against a claim."""
        name = claim[0]
        if name in ("many", "next"):
            right = type(against) is int or name == "next" and against is None
            yes, found = self.against(claim, 0)
            return right and not yes and against == found
        if name in ("apart", "gap"):
            if type(against) is not tuple or len(against) != 2 or [type(v) for v in against] != [int, int]:
                return False
            u, v = against
            two = self.two if name == "apart" else self.one
            return u in self.one and v in two and abs(u - v) < claim[-1] and (u != v or name == "apart")
        if type(against) is not int:
            return False
        return against in self.one and against not in self.two or name == "same" and against in self.two and against not in self.one


def some_claim(chance, a, b):
    first = chance.randint(-12, 12)
    return chance.choice([
        ("in", a, b), ("same", a, b), ("apart", a, b, chance.randint(1, 6)), ("gap", a, chance.randint(1, 5)),
        ("many", a, first, first + chance.randint(-2, 9), chance.randint(0, 5)), ("next", a, first, chance.choice([None, first, first + 1])),
    ])


class ClaimsTest(unittest.TestCase):

    def try_claim(self, calendar, answers, claim, plain, x, others):
        before = copy.deepcopy((answers, claim))
        told = decide(calendar, {}, answers, claim, x)
        yes, found = plain.against(claim, x)
        many = 2 if claim[0] in ("in", "same", "apart") else 1
        papers = tuple(paper_of(calendar, {}, answers, expression) for expression in claim[1:many + 1])
        self.assertEqual(told, ("true", papers) if yes else ("false", found, papers), (claim, x))
        self.assertIs(judge_claim(calendar, {}, answers, claim, papers), yes)
        for against in [*others, found]:
            self.assertIs(judge_against(calendar, {}, answers, claim, against, papers), plain.speaks_against(claim, against), (claim, against))
        if not yes:
            self.assertTrue(judge_against(calendar, {}, answers, claim, found, papers))
        self.assertEqual((answers, claim), before)
        return claim[0], yes

    def test_of_days(self):
        chance = random.Random(731)
        found = {}
        for _ in range(500):
            one = some_dayset(chance, 4, 8)
            two = chance.choice([one, some_dayset(chance, 4, 8), (*one[:3], one[3] + 3, one[4]), EMPTY, ALL])
            claim = some_claim(chance, ("set", one), ("set", two))
            window = range(-120, 120)
            plain = PlainClaims(within(one, window), within(two, window), window)
            others = [chance.randint(-20, 20) for _ in range(4)]
            others.extend((u, u + chance.randint(-4, 4)) for u in others[:])
            key = self.try_claim(GREGORIAN, {}, claim, plain, chance.randint(-15, 15), [*ODD, *others])
            found[key] = found.get(key, 0) + 1
        self.assertEqual(len(found), 12, found)
        self.assertGreater(min(found.values()), 3, found)

    def test_of_moments(self):
        chance = random.Random(732)
        found = {}
        for _ in range(400):
            minutes = chance.choice([2, 3, 5])
            calendar = calendar_with(minutes)
            one = some_minuteset(chance, minutes)
            two = chance.choice([one, some_minuteset(chance, minutes), ((0, EMPTY),)])
            answers = {name: ("moments", normal_minutes(calendar, row)) for name, row in (("a", one), ("b", two))}
            claim = some_claim(chance, ("name", "a"), ("name", "b"))
            window = range(-60 * minutes, 60 * minutes)
            plain = PlainClaims(moments_within(minutes, one, window), moments_within(minutes, two, window), window)
            others = [chance.randint(-20, 20) for _ in range(4)]
            others.extend((u, u + chance.randint(-4, 4)) for u in others[:])
            key = self.try_claim(calendar, answers, claim, plain, chance.randint(-25, 25), [*ODD, *others])
            found[key] = found.get(key, 0) + 1
        self.assertEqual(len(found), 12, found)

    def test_the_nearest_and_the_later_one(self):
        a, b = ("days", (0, 10, 20)), ("days", (10,))
        for x, against in ((-9, 0), (4, 0), (10, 20), (9, 0), (11, 20), (99, 20)):
            self.assertEqual(decide(GREGORIAN, {}, {}, ("in", a, b), x)[1], against)
            self.assertEqual(decide(GREGORIAN, {}, {}, ("same", b, a), x)[1], against)
        a, b = ("days", (0, 10, 20, 50)), ("days", (-3, 3, 13, 18, 22, 90))
        for x, against in ((-9, (0, 3)), (5, (10, 13)), (15, (20, 22)), (99, (20, 22)), (4, (0, 3))):
            self.assertEqual(decide(GREGORIAN, {}, {}, ("apart", a, b, 4), x)[1], against)
        self.assertEqual(decide(GREGORIAN, {}, {}, ("apart", a, b, 3), 0)[1], (20, 22))
        self.assertEqual(decide(GREGORIAN, {}, {}, ("apart", a, b, 2), 0)[0], "true")
        a = ("days", (0, 4, 8, 30, 35, 90))
        for x, against in ((-9, (0, 4)), (2, (4, 8)), (17, (30, 35)), (16, (4, 8)), (99, (30, 35))):
            self.assertEqual(decide(GREGORIAN, {}, {}, ("gap", a, 6), x)[1], against)
        self.assertEqual(decide(GREGORIAN, {}, {}, ("gap", a, 4), 5)[0], "true")
        self.assertEqual(decide(GREGORIAN, {}, {}, ("gap", a, 5), 30)[1], (4, 8))

    def test_for_all_time(self):
        weeks, days = ("set", periodic(7, [0])), ("set", periodic(14, [0]))
        far = 10 ** 50
        self.assertEqual(decide(GREGORIAN, {}, {}, ("in", days, weeks), 0)[0], "true")
        self.assertEqual(decide(GREGORIAN, {}, {}, ("in", weeks, days), 14 * far)[1], 14 * far + 7)
        self.assertEqual(decide(GREGORIAN, {}, {}, ("gap", weeks, 7), far)[0], "true")
        self.assertEqual(decide(GREGORIAN, {}, {}, ("many", weeks, 0, 7 * far, far), 0)[0], "true")
        self.assertEqual(decide(GREGORIAN, {}, {}, ("many", weeks, 0, -7, 0), 0)[0], "true")
        self.assertEqual(decide(GREGORIAN, {}, {}, ("next", ("days", (5,)), 6, 7), 0)[:2], ("false", None))
        self.assertEqual(decide(GREGORIAN, {}, {}, ("next", ("days", (5,)), 5, None), 0)[:2], ("false", 5))
        self.assertEqual(decide(GREGORIAN, {}, {}, ("next", ("days", (5,)), 6, None), 0)[0], "true")

    def test_papers_are_judged(self):
        a, b = ("or", ("days", (1, 5)), ("days", (9,))), ("not", ("days", (5,)))
        claim = ("in", a, b)
        word, against, papers = decide(GREGORIAN, {}, {}, claim, 0)
        self.assertEqual((word, against), ("false", 5))
        one, two = papers
        true = ("in", ("days", (9,)), b)
        self.assertTrue(judge_claim(GREGORIAN, {}, {}, true, (one[2:], two)))
        wrong = [(), (one,), (one, two, two), (two, one), (one, one), (one, ()), ((), two), (one[:2], two), (one, (*two, two[0])),
                 ((("days", ALL), *one[1:]), two), (one, (two[0], ("days", single([6]))))]
        for papers in wrong:
            self.assertIs(judge_claim(GREGORIAN, {}, {}, true, papers), False)
            self.assertIs(judge_against(GREGORIAN, {}, {}, claim, 5, papers), False)
        self.assertIs(judge_against(GREGORIAN, {}, {}, claim, 5, (one, two)), True)
        self.assertIs(judge_claim(GREGORIAN, {}, {}, claim, (one, two)), False)
        gap = ("gap", a, 4)
        self.assertIs(judge_claim(GREGORIAN, {}, {}, gap, (one,)), True)
        self.assertIs(judge_claim(GREGORIAN, {}, {}, gap, (one, one)), False)
        self.assertIs(judge_claim(GREGORIAN, {}, {}, gap, ()), False)

    def test_the_order_of_what_cannot_be_decided(self):
        large = ("or", ("set", ROW), ("days", (90000,)))
        zones = {"utc": UTC}
        moments = ("at", ("days", (1,)), 5, "utc", "both")
        for name, more in (("in", ()), ("same", ()), ("apart", (5,))):
            for a, b, answer in ((large, ("room", A, 5), ("large",)), (("room", A, 5), large, ("kind", 1)), (moments, large, ("large",)),
                                 (A, ("not", ("room", A, 1)), ("kind", 2))):
                with self.assertRaises(NoPaper) as caught:
                    decide(GREGORIAN, zones, {}, (name, a, b, *more), 0)
                self.assertEqual(caught.exception.answer, answer)
            # KindsDiffer comes ahead of TooLarge.
            for a, b in ((A, moments), (moments, A), (("set", ROW), moments)):
                with self.assertRaises(KindsDiffer):
                    decide(GREGORIAN, zones, {}, (name, a, b, *more), 0)
                papers = tuple(paper_of(GREGORIAN, zones, {}, expression) for expression in (a, b))
                self.assertIs(judge_claim(GREGORIAN, zones, {}, (name, a, b, *more), papers), False)
                self.assertIs(judge_against(GREGORIAN, zones, {}, (name, a, b, *more), 1, papers), False)
        for claim in (("gap", large, 5), ("many", large, 0, 5, 0), ("next", large, 0, None)):
            with self.assertRaises(NoPaper):
                decide(GREGORIAN, zones, {}, claim, 0)


def row_of(many, step=2):
    """A dayset of so many single days, with two borders each."""
    return (NOTHING, 0, tuple((step * k, step * k + 1) for k in range(many)), step * (many - 1) + 1, NOTHING)


class TooLargeTest(unittest.TestCase):

    def try_both(self, calendar, answers, claim, large):
        """decide and judge_claim raise TooLarge, or both do not; judge_against never does."""
        many = 2 if claim[0] in ("in", "same", "apart") else 1
        papers = tuple(paper_of(calendar, {}, answers, expression) for expression in claim[1:many + 1])
        against = (0, 0) if claim[0] in ("apart", "gap") else 0
        self.assertIs(type(judge_against(calendar, {}, answers, claim, against, papers)), bool)
        if large:
            with self.assertRaises(TooLarge):
                decide(calendar, {}, answers, claim, 0)
            with self.assertRaises(TooLarge):
                judge_claim(calendar, {}, answers, claim, papers)
            # Where papers are not right, it does not matter what is too large.
            self.assertIs(judge_claim(calendar, {}, answers, claim, papers[1:]), False)
        else:
            self.assertIs(judge_claim(calendar, {}, answers, claim, papers), decide(calendar, {}, answers, claim, 0)[0] == "true")

    def test_of_days(self):
        one, two = ("set", row_of(10000)), ("set", row_of(10001))
        for name in ("in", "same"):
            self.try_both(GREGORIAN, {}, (name, one, one), False)
            self.try_both(GREGORIAN, {}, (name, one, two), True)
        # N of b for k = 1 is b; for k = 2 its runs touch one another.
        self.try_both(GREGORIAN, {}, ("apart", one, one, 1), False)
        self.try_both(GREGORIAN, {}, ("apart", one, two, 1), True)
        self.try_both(GREGORIAN, {}, ("apart", one, two, 2), False)
        wide = ("set", row_of(10001, 10))
        self.try_both(GREGORIAN, {}, ("apart", one, wide, 5), True)
        self.try_both(GREGORIAN, {}, ("apart", one, wide, 6), False)
        # For gaps: nothing is asked for k = 1.
        self.try_both(GREGORIAN, {}, ("gap", ("set", row_of(20000)), 1), False)
        self.try_both(GREGORIAN, {}, ("gap", ("set", row_of(20000)), 2), True)
        self.try_both(GREGORIAN, {}, ("gap", ("set", row_of(20000)), 3), True)
        self.try_both(GREGORIAN, {}, ("gap", ("set", row_of(10000)), 2), False)
        self.try_both(GREGORIAN, {}, ("gap", ("set", row_of(10001)), 2), True)
        self.try_both(GREGORIAN, {}, ("gap", ("set", row_of(10001)), 3), False)
        self.try_both(GREGORIAN, {}, ("many", ("set", row_of(20000)), 0, 9, 5), False)
        self.try_both(GREGORIAN, {}, ("next", ("set", row_of(20000)), 0, 0), False)
        prime, other = ("set", periodic(10 ** 12 - 11, [0])), ("set", periodic(10, [0]))
        self.try_both(GREGORIAN, {}, ("in", prime, other), True)
        self.try_both(GREGORIAN, {}, ("same", prime, other), True)
        self.try_both(GREGORIAN, {}, ("apart", other, prime, 3), True)
        self.try_both(GREGORIAN, {}, ("apart", prime, ("set", ALL), 3), False)
        self.try_both(GREGORIAN, {}, ("apart", prime, other, 6), False)
        self.try_both(GREGORIAN, {}, ("apart", prime, other, 5), True)
        self.try_both(GREGORIAN, {}, ("gap", prime, 1000), False)

    def test_of_moments(self):
        calendar = calendar_with(1000)
        names = {"a": ("name", "a"), "b": ("name", "b")}

        def answers(one, two):
            return {"a": ("moments", normal_minutes(calendar, one)), "b": ("moments", normal_minutes(calendar, two))}

        def row(marks):
            return tuple((mark, ALL if k % 2 else EMPTY) for k, mark in enumerate(marks))

        many = row([0, *range(1, 400, 2)])
        more = row([0, *range(2, 402, 2)])
        also = row([0, *range(2, 400, 2)])
        for name in ("in", "same"):
            self.try_both(calendar, answers(many, more), (name, names["a"], names["b"]), True)
            self.try_both(calendar, answers(many, also), (name, names["a"], names["b"]), False)
            self.try_both(calendar, answers(((0, row_of(10000)),), ((0, row_of(10000)),)), (name, names["a"], names["b"]), False)
            self.try_both(calendar, answers(((0, row_of(10000)),), ((0, row_of(10001)),)), (name, names["a"], names["b"]), True)
        # N of b: its measure times 2, as long as back plus on is less than a day, is at most 40000.
        for k, most in ((1, 10000), (500, 10000), (501, 6666), (1000, 6666)):
            self.try_both(calendar, answers(((0, EMPTY),), ((0, row_of(most)),)), ("apart", names["a"], names["b"], k), False)
            self.try_both(calendar, answers(((0, EMPTY),), ((0, row_of(most + 1)),)), ("apart", names["a"], names["b"], k), True)
        short = calendar_with(50)
        for k in (500, 501, 502):
            self.try_both(short, answers(((0, EMPTY),), ((0, EMPTY),)), ("apart", names["a"], names["b"], k), k == 502)
        # Then the meeting of a with it.
        self.try_both(calendar, answers(many, more), ("apart", names["a"], names["b"], 1), True)
        self.try_both(calendar, answers(many, also), ("apart", names["a"], names["b"], 1), False)
        self.try_both(calendar, answers(many, more), ("apart", names["a"], names["b"], 3), False)
        for k, most in ((1, 20000), (2, 10000), (3, 10000), (1000, 10000)):
            self.try_both(calendar, answers(((0, row_of(most, 10)), (1, EMPTY)), ((0, EMPTY),)), ("gap", names["a"], k), False)
        self.try_both(calendar, answers(((0, row_of(10001, 10)), (1, EMPTY)), ((0, EMPTY),)), ("gap", names["a"], 2), True)
        for k in (1, 2, 3, 1000):
            self.try_both(calendar_with(40), answers(((0, EMPTY),), ((0, EMPTY),)), ("gap", names["a"], k), k - 2 > 800)
        lone = moments_union(calendar, moments_between(calendar, 5, 5), moments_between(calendar, 9, 9))
        for minutes in (1, 40):
            for k in (1, 2, 20 * minutes + 2, 20 * minutes + 3):
                if k <= 1000:
                    self.try_both(calendar_with(minutes), answers(((0, single([5, 9])),), ((0, ALL),)), ("gap", names["a"], k), k - 2 > 20 * minutes)
        self.assertEqual(decide(calendar, {}, answers(lone, lone), ("gap", names["a"], 5), 0)[1], (5, 9))


if __name__ == "__main__":
    unittest.main()
