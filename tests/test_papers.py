"""Points 69 to 71 and 74: papers, their judge, and days near to others."""

import copy
import random
import unittest

from everydue.books import Book
from everydue.calendars import GREGORIAN
from everydue.daysets import ALL, EMPTY, dayset_fault, normal, periodic, single
from everydue.errors import NoPaper
from everydue.expressions import expression_fault, told, tuples_of
from everydue.forms import parts_of_tuple
from everydue.joins import other
from everydue.minutes import ALWAYS, NEVER, minuteset_fault
from everydue.papers import judge_paper, near_days, paper_of
from everydue.zones import UTC
from tests.plain_books import CALENDARS
from tests.plain_sets import plain_normal
from tests.some_sets import NOTHING, some_dayset, some_minuteset, within
from tests.test_expression_faults import GOOD
from tests.test_told import ANSWERS, LARGE, NAME, ROW, RULE, ZONES

DAYS, MOMENTS = NAME["few"], NAME["morning"]

# Expressions in which each of the tuples stands, with others in them.
EXPRESSIONS = [
    ("or", ("rule", RULE), ("and", NAME["week"], ("days", (3, 4, 7)))),
    ("without", ("set", ((14, (1, 3, 8, 10), False), 5, (), 5, (7, (1, 3), False))), ("not", DAYS)),
    ("least", 2, (NAME["week"], DAYS, ("moved", DAYS, 1))),
    ("least", 1, (MOMENTS, NAME["evening"], ("moved", MOMENTS, -90))),
    ("between", ("on", DAYS, NAME["week"]), 4, 30),
    ("back", ("near", DAYS, NAME["week"]), ("between", NAME["week"], None, 100)),
    ("place", ("every", NAME["week"], 5, 3, 1), "month", (1, -1)),
    ("at", ("place", DAYS, "day", ()), 90, "berlin", "later"),
    ("local days", ("wide", ("at", DAYS, 500, "utc", "both"), 30, 40), "berlin"),
    ("room", ("wide", ("or", MOMENTS, ("without", NAME["evening"], MOMENTS)), 5, 0), 20),
    ("and", ("not", MOMENTS), ("between", ("moved", NAME["evening"], 10), 0, 20000)),
]


def plain_places(expression, place=0):
    """A list of pairs of each tuple and the places of those directly in it, in the order of the places."""
    rows, places, behind = [], [], place + 1
    for part in parts_of_tuple(expression):
        places.append(behind)
        inner = plain_places(part, behind)
        rows.extend(inner)
        behind += len(inner)
    return [(expression, places), *rows]


def with_parts(row, parts):
    """A tuple with others in the place of those directly in it."""
    if row[0] == "least":
        return (*row[:2], tuple(parts))
    return (row[0], *parts, *row[1 + len(parts):])


def is_set(calendar, member):
    kind, value = member
    if kind == "days":
        return len(value) == 5 and dayset_fault(value) is None
    return minuteset_fault(calendar, value) is None


def plain_judge(calendar, zones, answers, expression, paper):
    """The first place at which a paper is not right, by point 70 as it stands: the members stand there as names."""
    rows = plain_places(expression)
    for place, (row, places) in enumerate(rows):
        if max([place, *places]) >= len(paper) or not all(is_set(calendar, paper[part]) for part in places):
            return place
        sets = {"z" + "abcdefghijkl"[k]: paper[part] for k, part in enumerate(places)}
        tried = with_parts(row, [("name", name) for name in sets])
        if repr(told(calendar, zones, {**answers, **sets}, tried)) != repr(paper[place]):
            return place
    return len(rows) if len(paper) > len(rows) else None


class PapersTest(unittest.TestCase):

    def judge(self, expression, paper, calendar=GREGORIAN, zones=ZONES, answers=ANSWERS):
        before = copy.deepcopy((calendar, zones, answers, expression, paper))
        place = judge_paper(calendar, zones, answers, expression, paper)
        self.assertEqual((calendar, zones, answers, expression, paper), before)
        self.assertEqual(place, plain_judge(calendar, zones, answers, expression, paper), (expression, paper))
        return place

    def test_right_ones(self):
        names = set()
        for expression in EXPRESSIONS:
            paper = paper_of(GREGORIAN, ZONES, ANSWERS, expression)
            self.assertEqual(paper, tuple(told(GREGORIAN, ZONES, ANSWERS, row) for row in tuples_of(expression)))
            self.assertIs(type(paper), tuple)
            self.assertIsNone(self.judge(expression, paper))
            names.update(row[0] for row in tuples_of(expression))
        self.assertEqual(names, {row[0] for row in GOOD})

    def test_one_member_changed(self):
        chance = random.Random(701)
        for expression in EXPRESSIONS:
            paper = paper_of(GREGORIAN, ZONES, ANSWERS, expression)
            rows = plain_places(expression)
            for place, (kind, value) in enumerate(paper):
                over = [k for k, (_, places) in enumerate(rows) if place in places]
                others = [
                    ("days", single([1])), ("days", EMPTY), ("moments", NEVER), ("moments", ALWAYS), ("days", ()), ("days", value),
                    ("moments", value), ("days", EMPTY[:4]), ("moments", ()), ("moments", ((0, EMPTY), (1440, ALL))), ("moments", ((1, ALL),)),
                    ("days", ((0, (), False), *EMPTY[1:])), ("days", (*EMPTY[:3], -1, EMPTY[4])), ("moments", ((0, 0),)), ("moments", (0, 1)),
                    ("days", (EMPTY[0], False, (), 0, EMPTY[4])), ("days", ((1, (), 0), 0, (), 0, (1, (), False))), ("days", ((),) * 5),
                ]
                for one in others:
                    changed = (*paper[:place], one, *paper[place + 1:])
                    found = self.judge(expression, changed)
                    if one != paper[place]:
                        self.assertIn(found, [*over, place])
                left_out = (*paper[:place], *paper[place + 1:])
                self.assertIsNotNone(self.judge(expression, left_out))
                put_in = (*paper[:place], chance.choice(others), *paper[place:])
                self.assertIsNotNone(self.judge(expression, put_in))
                self.assertLessEqual(self.judge(expression, paper[:place]), place)

    def test_what_is_not_normal(self):
        wide = ((2, (), False), 0, (), 0, NOTHING)
        for expression, paper, place in (
            (("days", ()), (("days", wide),), 0),
            (("not", ("days", ())), (("days", ALL), ("days", wide)), 1),
            (("not", ("days", ())), (("days", ((2, (), True), *ALL[1:])), ("days", EMPTY)), 0),
            (("least", 1, (("days", ()), DAYS)), (ANSWERS["few"], ("days", wide), ANSWERS["few"]), 1),
            (("not", ("wide", MOMENTS, 0, 0)), (("moments", ALWAYS), ("moments", ((0, EMPTY), (5, wide))), ANSWERS["morning"]), 1),
        ):
            self.assertEqual(self.judge(expression, paper), place)

    def test_flags_are_no_integers(self):
        for value, place in ((single([0, 3]), None), ((NOTHING, False, ((False, True), (3, 4)), 4, NOTHING), 0),
                             (((1, (), 0), 0, ((0, 1), (3, 4)), 4, NOTHING), 0), (((True, (), False), 0, ((0, 1), (3, 4)), 4, NOTHING), 0)):
            self.assertEqual(self.judge(("days", (0, 3)), (("days", value),)), place)
            self.assertEqual(self.judge(("moved", ("days", (0, 3)), 0), (("days", single([0, 3])), ("days", value))), place)
        for value, place in ((((0, EMPTY), (1, ALL)), None), (((False, EMPTY), (True, ALL)), 0), (((0, EMPTY), (True, ALL)), 0)):
            answers = {"x": ("moments", ((0, EMPTY), (1, ALL)))}
            self.assertEqual(self.judge(("name", "x"), (("moments", value),), GREGORIAN, {}, answers), place)

    def test_too_few_and_too_many(self):
        expression = ("or", ("not", ("days", (1,))), ("days", (2,)))
        paper = paper_of(GREGORIAN, {}, {}, expression)
        self.assertEqual([self.judge(expression, paper[:many]) for many in range(4)], [0, 0, 0, 0])
        self.assertEqual(self.judge(expression, (*paper, paper[0])), 4)
        self.assertEqual(self.judge(expression, (*paper, ("days", ()))), 4)
        expression = ("not", ("not", ("not", ("days", (1,)))))
        paper = paper_of(GREGORIAN, {}, {}, expression)
        self.assertEqual([self.judge(expression, paper[:many]) for many in range(4)], [0, 0, 1, 2])

    def test_both_of_another_kind(self):
        # Each member is judged by those in it alone: the first one is right if the second one is.
        expression = ("moved", ("days", (1,)), 0)
        self.assertEqual(self.judge(expression, (("moments", NEVER), ("moments", NEVER))), 1)
        self.assertEqual(self.judge(expression, (("days", EMPTY), ("moments", NEVER))), 0)
        self.assertEqual(self.judge(("or", DAYS, DAYS), (("moments", NEVER), ("moments", NEVER), ANSWERS["few"])), 0)
        self.assertEqual(self.judge(("or", DAYS, DAYS), (("moments", NEVER), ("moments", NEVER), ("moments", NEVER))), 1)
        self.assertEqual(self.judge(("place", DAYS, "day", ()), (("days", EMPTY), ("moments", NEVER))), 0)
        self.assertEqual(self.judge(("room", MOMENTS, 5), (("moments", NEVER), ("days", EMPTY))), 0)
        self.assertEqual(self.judge(("local days", MOMENTS, "utc"), (("days", EMPTY), ("days", EMPTY))), 0)

    def test_too_large_at_a_place(self):
        row = ("set", ROW)
        self.assertEqual(paper_of(GREGORIAN, {}, {}, row), (("days", ROW),))
        expression = ("not", ("or", row, ("days", (90000,))))
        paper = (("days", ALL), ("days", EMPTY), ("days", ROW), ("days", single([90000])))
        self.assertEqual(self.judge(expression, paper), 1)
        # The same members are not too large if one of them is another one.
        paper = (("days", ALL), ("days", EMPTY), ("days", EMPTY), ("days", EMPTY))
        self.assertEqual(self.judge(expression, paper), 2)

    def test_more_borders_than_a_dayset_without_a_fault_has(self):
        expression = ("not", ("place", ("set", ALL), "month", (1, 3, 5, 7, 9, 11)))
        paper = paper_of(GREGORIAN, {}, {}, expression)
        self.assertEqual(dayset_fault(paper[1][1]), "left")
        self.assertIsNone(judge_paper(GREGORIAN, {}, {}, expression, paper))
        self.assertEqual(judge_paper(GREGORIAN, {}, {}, expression, (paper[0], paper[0], paper[2])), 0)

    def test_by_chance(self):
        chance = random.Random(702)
        found = {}
        for _ in range(600):
            calendar = chance.choice(CALENDARS)
            answers = {"a": ("days", normal(some_dayset(chance))), "m": ("moments", (("q", 0),))}
            rows = some_minuteset(chance, calendar[6])
            answers["m"] = told(calendar, {}, {"x": ("moments", rows)}, ("moved", ("name", "x"), 0))
            expression = some_told(chance, 0)
            answer = told(calendar, {"p": UTC}, answers, expression)
            if answer[0] in ("kind", "large"):
                with self.assertRaises(NoPaper) as caught:
                    paper_of(calendar, {"p": UTC}, answers, expression)
                self.assertEqual(caught.exception.answer, answer)
                found[answer[0]] = found.get(answer[0], 0) + 1
                continue
            paper = paper_of(calendar, {"p": UTC}, answers, expression)
            self.assertIsNone(self.judge(expression, paper, calendar, {"p": UTC}, answers))
            for _ in range(4):
                changed = list(paper)
                for _ in range(chance.randint(1, 3)):
                    at = chance.randrange(len(changed))
                    changed[at] = chance.choice([
                        chance.choice(changed), ("days", some_dayset(chance)), ("moments", some_minuteset(chance, 4)), answers["a"], answers["m"],
                        ("days", normal(some_dayset(chance))),
                    ])
                place = self.judge(expression, tuple(changed), calendar, {"p": UTC}, answers)
                found[place] = found.get(place, 0) + 1
        for place in ("kind", "large", None, 0, 1, 2, 3):
            self.assertGreater(found.get(place, 0), 3, found)


def some_told(chance, depth):
    """A little expression of the days a, the moments m, and the zone p, whose kinds are often right."""
    leaf = [("name", "a"), ("name", "m"), ("days", (1, 2, 5)), ("at", ("name", "a"), 1, "p", "both")]
    if depth == 3 or chance.random() < 0.2:
        return chance.choice(leaf)
    part, two = some_told(chance, depth + 1), some_told(chance, depth + 1)
    return chance.choice([
        ("or", part, two), ("and", part, two), ("without", part, two), ("not", part), ("least", 1, (part, two)), ("moved", part, 3),
        ("between", part, -2, 9), ("wide", part, 1, chance.choice([1, 1, 900])), ("room", part, 2), ("local days", part, "p"), ("on", part, two),
        ("place", part, "week", (1, -2)), ("every", part, 0, 2, 1), ("at", part, 2, "p", "later"),
    ])


class NoPaperTest(unittest.TestCase):

    def test_answers_that_are_no_sets(self):
        a = ("days", (1,))
        for expression, answer in (
            (("or", a, ("name", "x")), ("missing", "x")), (("at", a, 5, "zone", "both"), ("missing", "zone")),
            (("or", ("at", a, 5, "zone", "both"), ("name", "x")), ("missing", "zone")), (("not", ("name", "c")), ("through", "c")),
            (("or", ("name", "l"), ("name", "c")), ("through", "l")), (("room", a, 5), ("kind", 1)), (("or", a, MOMENTS), ("kind", 2)),
            (("not", ("or", MOMENTS, ("and", a, MOMENTS))), ("kind", 3)), (LARGE, ("large",)), (("not", LARGE), ("large",)),
            (("or", ("room", a, 5), LARGE), ("kind", 2)), (("wide", MOMENTS, 20 * 1440, 1), ("large",)),
        ):
            self.assertIsNone(expression_fault(expression))
            answers = {**ANSWERS, "c": ("circle",), "l": ("large",)}
            with self.assertRaises(NoPaper) as caught:
                paper_of(GREGORIAN, ZONES, answers, expression)
            self.assertEqual(caught.exception.answer, answer)

    def test_the_answers_are_those_of_a_book(self):
        book = Book(GREGORIAN)
        book.put_zone("utc", UTC)
        for name, expression in (("a", ("days", (5, 9))), ("b", ("at", ("name", "a"), 600, "utc", "first"))):
            book.put(name, expression)
        answers = {name: book.answer(name) for name in book.names()}
        for name in book.names():
            paper = paper_of(GREGORIAN, {"utc": UTC}, answers, book.expression(name))
            self.assertEqual(paper[0], book.answer(name))


class NearDaysTest(unittest.TestCase):

    def test_against_trying(self):
        chance = random.Random(741)
        window = range(-60, 60)
        for _ in range(300):
            dayset = some_dayset(chance)
            back, on = chance.randint(0, 12), chance.choice([0, 0, 1, chance.randint(0, 12)])
            told_days = near_days(dayset, back, on)
            days = within(dayset, range(-80, 80))
            self.assertEqual(within(told_days, window), {d for d in window if any(x in days for x in range(d - on, d + back + 1))})
            self.assertEqual(told_days, plain_normal(told_days))

    def test_edges(self):
        self.assertEqual(near_days(EMPTY, 1000, 1000), EMPTY)
        self.assertEqual(near_days(ALL, 1000, 1000), ALL)
        self.assertEqual(near_days(single([7]), 1000, 0), (NOTHING, -993, ((-993, 8),), 8, NOTHING))
        self.assertEqual(near_days(single([7]), 0, 1000), (NOTHING, 7, ((7, 1008),), 1008, NOTHING))
        self.assertEqual(near_days(periodic(2001, [0]), 1000, 1000), ALL)
        self.assertEqual(near_days(periodic(2002, [0]), 1000, 1000), other(periodic(2002, [1001])))
        half = (NOTHING, 0, (), 0, (1, (), True))
        self.assertEqual(near_days(half, 5, 1000), (NOTHING, -5, (), -5, (1, (), True)))
        self.assertEqual(near_days(((1, (), True), 0, (), 0, NOTHING), 1000, 5), ((1, (), True), 5, (), 5, NOTHING))
        far = 10 ** 40
        self.assertEqual(near_days(single([far]), 1, 2), (NOTHING, far - 1, ((far - 1, far + 3),), far + 3, NOTHING))

    def test_it_is_never_too_large(self):
        borders = tuple(range(0, 80000, 2))
        side = (10 ** 12, borders, False)
        right = (10 ** 12 - 1, tuple(range(1, 80001, 2)), True)
        runs = tuple((4 * k, 4 * k + 2) for k in range(40000))
        dayset = (side, 0, runs, 160000, right)
        for back, on in ((0, 0), (1, 0), (0, 1), (1, 1)):
            told_days = near_days(dayset, back, on)
            for day in (-10 ** 12 - 3, -3, 5, 80001, 160001, 10 ** 12 + 5):
                plain = any(within(dayset, [x]) for x in range(day - on, day + back + 1))
                self.assertEqual(bool(within(told_days, [day])), plain)


if __name__ == "__main__":
    unittest.main()
