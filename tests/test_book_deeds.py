"""Points 51 to 58: answers of books, and what each kind of deed makes anew."""

import random
import unittest

from everydue.books import Book, answer_of
from everydue.calendars import GREGORIAN
from everydue.daysets import ALL, EMPTY, single
from everydue.errors import EverydueError, InvalidCalendar, InvalidExpression, InvalidName, InvalidZone, NoShift, TooLarge
from everydue.joins import moved
from everydue.minutes import NEVER
from everydue.zones import UTC
from tests.plain_books import CALENDARS, NAMES, ZONE_NAMES, ZONES, do, plain_answer, some_deed, some_expression
from tests.test_books import held
from tests.test_told import LARGE, ROW

A, B = ("name", "a"), ("name", "b")
LITTLE, SHORT = ((5,), 1, 0, (), 3, 0, 10), ((5,), 1, 0, (), 3, 0, 4)


def days(*row):
    return ("days", single(row))


class AnswersTest(unittest.TestCase):

    def setUp(self):
        self.book = Book(LITTLE)

    def lay(self, **entries):
        for name, expression in entries.items():
            self.book.put(name, expression)

    def assert_answers(self, **answers):
        told = {name: self.book.answer(name) for name in answers}
        self.assertEqual(told, answers)
        zones = {name: self.book.zone(name) for name in self.book.zones()}
        entries = {name: self.book.expression(name) for name in self.book.names()}
        for name in entries:
            self.assertEqual(answer_of(self.book.calendar(), zones, entries, name), self.book.answer(name))

    def test_over_one_another(self):
        self.lay(a=("days", (1, 2)), b=("moved", A, 5), c=("or", A, B), d=("without", ("name", "c"), A))
        self.assert_answers(a=days(1, 2), b=days(6, 7), c=days(1, 2, 6, 7), d=days(6, 7))
        self.assertEqual(self.book.rows(), ["a", "b", "c", "d"])
        self.assertEqual((self.book.behind("a"), self.book.behind("b"), self.book.behind("d")), (["b", "c", "d"], ["c", "d"], []))

    def test_circles(self):
        self.lay(a=A)
        self.assert_answers(a=("circle",))
        self.lay(a=B, b=A)
        self.assert_answers(a=("circle",), b=("circle",))
        self.lay(a=B, b=("name", "c"), c=("or", A, ("name", "x")), d=("and", B, ("name", "x")), e=("not", ("name", "d")), f=("not", B))
        self.assert_answers(a=("circle",), b=("circle",), c=("circle",), d=("missing", "x"), e=("through", "d"), f=("through", "b"))
        self.assertEqual(self.book.rows(), [])
        self.assertEqual((self.book.behind("a"), self.book.behind("d")), (["a", "b", "c", "d", "e", "f"], ["e"]))
        # Between two circles, in none of them.
        self.lay(d=("and", B, ("name", "g")), g=("name", "h"), h=("not", ("name", "g")))
        self.assert_answers(d=("through", "b"), g=("circle",), h=("circle",))
        self.lay(c=("days", (3,)))
        self.assert_answers(a=days(3), b=days(3), d=("through", "g"), e=("through", "d"), f=("days", ((1, (), True), 3, (), 4, (1, (), True))))
        self.assertEqual(self.book.rows(), ["c", "b", "a", "f"])

    def test_a_long_circle_and_a_long_row(self):
        names = [one + two for one in "abcdefghij" for two in "klmnopqrstuvwxyz"]
        for name, ahead in zip(names, [names[-1], *names]):
            self.book.put(name, ("moved", ("name", ahead), 1))
        self.assertEqual({self.book.answer(name) for name in names}, {("circle",)})
        self.assertEqual(self.book.made(), len(names))
        self.book.put(names[0], ("days", (0,)))
        self.assertEqual(self.book.made(), len(names))
        self.assertEqual(self.book.answer(names[-1]), days(len(names) - 1))
        self.assertEqual(self.book.rows(), names)
        self.assertEqual(self.book.behind(names[5]), names[6:])
        self.book.put(names[80], ("days", (7,)))
        self.assertEqual((self.book.made(), len(self.book.changed())), (len(names) - 80,) * 2)

    def test_the_first_that_applies(self):
        # circle ahead of missing, through, kind and large
        self.lay(a=("or", ("at", A, 1, "no", "both"), LARGE))
        self.assert_answers(a=("circle",))
        # missing ahead of through, and the first of the names; zones and entries in the order of their places
        self.lay(b=("or", A, ("at", ("name", "x"), 1, "no", "both")))
        self.assert_answers(b=("missing", "no"))
        self.book.put_zone("no", UTC)
        self.assert_answers(b=("missing", "x"))
        self.lay(x=("days", (1,)))
        self.assert_answers(b=("through", "a"))
        self.lay(c=("or", ("name", "y"), ("at", ("name", "z"), 1, "zone", "both")), d=("or", ("at", ("name", "z"), 1, "zone", "both"), ("name", "y")))
        self.assert_answers(c=("missing", "y"), d=("missing", "zone"))
        # a zone that does not fit is missing; one with the name of an entry is no entry
        self.book.put_zone("zone", (11, (), None))
        self.assert_answers(d=("missing", "zone"))
        self.book.put_zone("zone", (10, (), None))
        self.book.put_zone("y", UTC)
        self.assert_answers(c=("missing", "y"), d=("missing", "z"))
        # through ahead of kind and large, and the first of the names
        self.lay(y=("name", "gone"), z=("name", "y"))
        self.lay(e=("or", ("room", ("name", "z"), 1), ("or", ("name", "y"), LARGE)))
        self.assert_answers(y=("missing", "gone"), z=("through", "y"), e=("through", "z"))
        # kind ahead of large, and the first place
        self.lay(f=("or", LARGE, ("wide", ("days", (1,)), 0, 0)), g=("or", ("days", (1,)), ("or", LARGE, LARGE)))
        self.assert_answers(f=("kind", 4), g=("large",))
        self.lay(f=("least", 1, (("at", ("days", ()), 1, "y", "both"), ("days", ()), ("room", ("days", ()), 1))))
        self.assert_answers(f=("kind", 3))
        # what is behind these
        self.lay(h=("not", ("name", "f")), i=("not", ("name", "g")), j=("or", ("name", "i"), ("name", "h")))
        self.assert_answers(h=("through", "f"), i=("through", "g"), j=("through", "i"))

    def test_names_of_both_kinds_of_answers(self):
        self.book.put_zone("p", UTC)
        self.lay(a=("days", (1,)), b=("at", A, 9, "p", "both"), c=("or", A, B), d=("or", B, A), e=("local days", B, "p"), f=("at", B, 9, "p", "both"))
        self.assert_answers(a=days(1), b=("moments", ((0, EMPTY), (9, single([1])))), c=("kind", 2), d=("kind", 2), e=days(1), f=("kind", 1))

    def test_answers_hang_on_the_calendar(self):
        self.book.put_zone("p", (5, (), None))
        self.lay(a=("place", ("set", ALL), "year", (1,)), b=("at", ("days", (0,)), 7, "p", "both"))
        self.assertEqual(self.book.answer("a")[1], ((5, (0, 1), False), 0, (), 0, (5, (0, 1), False)))
        self.assertEqual(self.book.answer("b"), ("moments", ((0, EMPTY), (2, single([0])), (3, EMPTY))))
        self.book.reform(SHORT)
        self.assert_answers(b=("missing", "p"))
        self.book.reform(GREGORIAN)
        self.assert_answers(b=("moments", ((0, EMPTY), (2, single([0])), (3, EMPTY))))


class DeedsTest(unittest.TestCase):

    def setUp(self):
        self.book = Book(LITTLE)
        self.book.put_zone("p", UTC)
        for name, expression in (("a", ("days", (1,))), ("b", ("or", A, ("days", (2,)))), ("c", ("at", B, 3, "p", "both")),
                                 ("d", ("or", ("name", "x"), A)), ("e", ("not", ("name", "d")))):
            self.book.put(name, expression)

    def assert_deed(self, made, *names):
        self.assertEqual((self.book.made(), [row[0] for row in self.book.changed()]), (made, list(names)))

    def test_put_anew(self):
        self.book.put("a", ("days", (1,)))
        self.assert_deed(1)
        self.assertEqual(self.book.shift("a"), (EMPTY, EMPTY))
        # another expression with the same meaning
        self.book.put("a", ("set", single([1])))
        self.assert_deed(1)
        # another meaning: b has another answer, and so c; d is missing x still
        self.book.put("a", ("days", (4,)))
        self.assert_deed(4, "a", "b", "c")
        self.assertEqual(self.book.changed(), [
            ("a", days(1), days(4)), ("b", days(1, 2), days(2, 4)),
            ("c", ("moments", ((0, EMPTY), (3, single([1, 2])), (4, EMPTY))), ("moments", ((0, EMPTY), (3, single([2, 4])), (4, EMPTY)))),
        ])
        self.assertEqual(self.book.shift("b"), (single([1]), single([4])))
        self.assertEqual(self.book.shift("c"), (((0, EMPTY), (3, single([1])), (4, EMPTY)), ((0, EMPTY), (3, single([4])), (4, EMPTY))))
        # another meaning that b does not see: c is kept
        self.book.put("a", ("days", (2, 4)))
        self.assert_deed(3, "a")
        self.assertEqual(self.book.shift("c"), (NEVER, NEVER))

    def test_names_that_come_and_go(self):
        self.book.put("x", ("days", (9,)))
        self.assert_deed(3, "d", "e", "x")
        self.assertEqual(self.book.changed()[2], ("x", None, days(9)))
        for name in "dex":
            with self.assertRaises(NoShift):
                self.book.shift(name)
        self.book.drop("x")
        self.assert_deed(2, "d", "e", "x")
        self.assertEqual(self.book.changed()[2], ("x", days(9), None))
        with self.assertRaises(NoShift):
            self.book.shift("x")
        # What comes as a circle, or misses something itself: d has another answer each time, e has not.
        self.book.put("x", ("name", "x"))
        self.assert_deed(3, "d", "x")
        self.assertEqual(self.book.answer("d"), ("through", "x"))
        self.book.put("x", ("name", "y"))
        self.assert_deed(2, "x")
        # A name of which it speaks comes: made anew, with the same answer as before.
        self.book.put("f", ("or", ("name", "u"), ("name", "v")))
        self.book.put("v", ("days", ()))
        self.assert_deed(2, "v")
        self.book.drop("v")
        self.assert_deed(1, "v")
        self.book.put("u", ("name", "u"))
        self.assert_deed(2, "f", "u")

    def test_circles_that_close_and_open(self):
        self.book.put("a", B)
        self.assertEqual(self.book.answer("b"), ("circle",))
        # a, b in the circle; c behind it; d speaks of a, which has another answer
        self.assert_deed(4, "a", "b", "c")
        self.book.put("a", B)
        self.assert_deed(1)
        # the circle grows: the answers are the same, but the new one is made
        self.book.put("f", ("or", A, ("days", ())))
        self.assert_deed(1, "f")
        self.book.put("b", ("name", "f"))
        self.assert_deed(2, "f")
        self.book.put("f", ("days", (7,)))
        self.assert_deed(5, "a", "b", "c", "f")
        # an entry of a circle that speaks of something with another answer is made anew, too
        self.book.put("a", ("or", A, ("name", "f")))
        self.book.put("f", ("days", (8,)))
        self.assert_deed(4, "b", "c", "f")

    def test_zones(self):
        self.book.put_zone("p", UTC)
        self.assert_deed(1)
        self.book.put_zone("p", (1, (), None))
        self.assert_deed(1, "c")
        self.book.put_zone("q", UTC)
        self.assert_deed(0)
        self.book.put_zone("p", (11, (), None))
        self.assert_deed(1, "c")
        self.assertEqual(self.book.answer("c"), ("missing", "p"))
        self.book.put_zone("p", (12, (), None))
        self.assert_deed(1)
        self.book.drop_zone("p")
        self.assert_deed(1)
        self.book.drop_zone("p")
        self.assert_deed(0)
        self.book.put_zone("p", UTC)
        self.assert_deed(1, "c")
        self.book.drop_zone("p")
        self.assert_deed(1, "c")

    def test_calendars(self):
        self.book.reform(LITTLE)
        self.assert_deed(5)
        self.book.reform(SHORT)
        self.assert_deed(5, "c")
        self.assertEqual(self.book.shift("a"), (EMPTY, EMPTY))
        with self.assertRaises(NoShift):
            self.book.shift("c")
        self.book.put_zone("p", UTC)
        self.assertEqual(self.book.shift("c"), (NEVER, NEVER))

    def test_a_shift_that_is_too_large(self):
        self.book.put("a", ("set", ROW))
        self.book.put("a", ("not", ("set", ROW)))
        with self.assertRaises(TooLarge):
            self.book.shift("a")
        # The kinds come first.
        self.book.put("b", ("set", ROW))
        self.book.put("b", ("at", ("days", ()), 0, "p", "both"))
        with self.assertRaises(NoShift):
            self.book.shift("b")
        self.book.put("b", LARGE)
        with self.assertRaises(NoShift):
            self.book.shift("b")

    def test_a_deed_that_is_refused_changes_nothing(self):
        self.book.put("a", ("days", (5,)))
        before = (held(self.book), self.book.made(), self.book.changed(), self.book.shift("a"), [self.book.answer(n) for n in self.book.names()])
        for ask in (lambda: self.book.put("A", ("days", ())), lambda: self.book.put("a", ("days", (2, 1))), lambda: self.book.drop("a1"),
                    lambda: self.book.put_zone("", UTC), lambda: self.book.put_zone("p", (0, (), ())), lambda: self.book.drop_zone(None),
                    lambda: self.book.reform((*LITTLE[:6], 2001)), lambda: self.book.answer("none"), lambda: self.book.behind("none")):
            with self.assertRaises(EverydueError):
                ask()
            now = (held(self.book), self.book.made(), self.book.changed(), self.book.shift("a"), [self.book.answer(n) for n in self.book.names()])
            self.assertEqual(now, before)
        for error, ask in ((InvalidName, lambda: self.book.put("A", None)), (InvalidExpression, lambda: self.book.put("a", None)),
                           (InvalidName, lambda: self.book.put_zone("A", None)), (InvalidZone, lambda: self.book.put_zone("a", None)),
                           (InvalidCalendar, lambda: self.book.reform((None,) * 7))):
            with self.assertRaises(error):
                ask()

    def test_two_books_side_by_side(self):
        other = Book(LITTLE)
        other.put("a", ("days", (7,)))
        other.put("b", ("name", "a"))
        before = [self.book.answer(name) for name in self.book.names()]
        other.put("a", ("days", (8,)))
        other.put_zone("p", (3, (), None))
        other.drop("b")
        self.assertEqual([self.book.answer(name) for name in self.book.names()], before)
        self.assert_deed(1, "e")
        self.book.drop("a")
        self.assertEqual((other.names(), other.answer("a")), (["a"], days(8)))


class ManyDeedsTest(unittest.TestCase):

    def test_kept_answers_are_those_of_a_book_made_from_nothing(self):
        chance = random.Random(512)
        for _ in range(40):
            book = Book(chance.choice(CALENDARS))
            for _ in range(chance.randint(10, 60)):
                do(book, some_deed(chance))
            calendar, zones, entries = held(book)
            deeds = [*[("put_zone", *pair) for pair in zones.items()], *[("put", *pair) for pair in entries.items()]]
            chance.shuffle(deeds)
            again = Book(calendar)
            for deed in deeds:
                do(again, deed)
            for name in entries:
                self.assertEqual(again.answer(name), book.answer(name))
                self.assertEqual(plain_answer(calendar, zones, entries, name), book.answer(name))
                self.assertEqual(answer_of(calendar, zones, entries, name), book.answer(name))
            self.assertEqual((again.rows(), [again.behind(name) for name in entries]), (book.rows(), [book.behind(name) for name in entries]))

    def test_another_calendar_laid_down_at_once(self):
        entries = {"a": ("place", ("set", ALL), "year", (1,)), "b": ("at", A, 3, "p", "both"), "c": ("name", "b")}
        book = Book(LITTLE)
        book.become(LITTLE, {"p": (5, (), None)}, entries)
        kept = [book.answer(name) for name in "abc"]
        book.become(((6,), 1, 0, (), 3, 0, 9), {"p": (5, (), None)}, entries)
        self.assertEqual(book.answer("a")[1][0], (6, (0, 1), False))
        self.assertEqual(book.answer("c")[1], ((0, EMPTY), (7, moved(book.answer("a")[1], -1)), (8, EMPTY)))
        book.become(SHORT, {"p": (5, (), None)}, entries)
        self.assertEqual([book.answer(name) for name in "bc"], [("missing", "p"), ("through", "b")])
        book.become(LITTLE, {"p": (5, (), None)}, entries)
        self.assertEqual([book.answer(name) for name in "abc"], kept)

    def test_laid_down_at_once(self):
        # Devices and texts lay a whole book down in the place of another one.
        chance = random.Random(513)
        for _ in range(80):
            book = Book(chance.choice(CALENDARS))
            for _ in range(chance.randint(0, 20)):
                do(book, some_deed(chance))
            calendar = chance.choice([book.calendar(), *CALENDARS])
            zones = {name: chance.choice([book.zone(name) or UTC, *ZONES]) for name in ZONE_NAMES if chance.random() < 0.7}
            entries = {name: chance.choice([book.expression(name), some_expression(chance)]) or A for name in NAMES if chance.random() < 0.7}
            twin = book.twin()
            before = (held(twin), twin.made(), twin.changed())
            book.become(calendar, zones, entries)
            self.assertEqual(held(book), (calendar, zones, entries))
            self.assertEqual((book.made(), book.changed()), (0, []))
            for name in entries:
                self.assertEqual(book.answer(name), plain_answer(calendar, zones, entries, name))
            self.assertEqual((held(twin), twin.made(), twin.changed()), before)
            deed = some_deed(chance)
            again = Book(calendar)
            for one in [*[("put_zone", *pair) for pair in zones.items()], *[("put", *pair) for pair in entries.items()], deed]:
                do(again, one)
            do(book, deed)
            self.assertEqual((held(book), book.made(), book.changed()), (held(again), again.made(), again.changed()))
            self.assertEqual([book.answer(name) for name in book.names()], [again.answer(name) for name in again.names()])


if __name__ == "__main__":
    unittest.main()
