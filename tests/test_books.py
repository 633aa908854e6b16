"""Points 51 to 58: books, as far as agendas and watches need them."""

import random
import unittest

from everydue.books import Book, answer_of
from everydue.calendars import GREGORIAN
from everydue.daysets import ALL, EMPTY, periodic, single
from everydue.errors import InvalidCalendar, InvalidExpression, InvalidName, InvalidZone, NoShift, TooLarge, UnknownName
from everydue.expressions import speaks_of
from everydue.joins import without
from everydue.minutes import NEVER, moments_without
from everydue.zones import UTC
from tests.odd_values import deep
from tests.plain_books import CALENDARS, NAMES, do, plain_answer, plain_at_last, plain_rows, some_deed
from tests.some_sets import NOTHING

ROW = (NOTHING, 0, tuple((2 * k, 2 * k + 1) for k in range(20000)), 39999, NOTHING)


def held(book):
    """The calendar, the zones and the entries of a book."""
    return (book.calendar(), {name: book.zone(name) for name in book.zones()},
            {name: book.expression(name) for name in book.names()})


def plain_made(deed, before, after, old, new):
    """The names of the entries that a deed makes anew, by point 54 as it stands."""
    names = set()
    entries_before, entries = before[2], after[2]
    for name in entries:
        others, zones = speaks_of(entries[name])
        circle_before = name in entries_before and name in plain_at_last(entries_before, name)
        if (
            deed[0] == "put" and deed[1] == name
            or deed[0] == "put_zone" and deed[1] in zones
            or deed[0] == "drop_zone" and deed[1] in zones and deed[1] in before[1]
            or deed[0] == "reform"
            or any((other in entries_before) != (other in entries) for other in others)
            or any(other in old and other in new and old[other] != new[other] for other in others)
            or circle_before != (name in plain_at_last(entries, name))
        ):
            names.add(name)
    return names


class BooksByChanceTest(unittest.TestCase):

    def test_deeds_by_chance(self):
        chance = random.Random(541)
        kinds = {}
        for index in range(60):
            book = Book(chance.choice(CALENDARS))
            self.assertEqual((book.made(), book.changed(), book.names(), book.zones(), book.rows()), (0, [], [], [], []))
            old = {}
            if index % 2:
                book.put_zone("p", UTC)
                book.put_zone("q", UTC)
            for _ in range(25):
                before, deed = held(book), some_deed(chance)
                do(book, deed)
                calendar, zones, entries = after = held(book)
                new = {name: book.answer(name) for name in book.names()}
                for name in entries:
                    self.assertEqual(new[name], plain_answer(calendar, zones, entries, name), (after, name))
                    self.assertEqual(answer_of(calendar, zones, entries, name), new[name])
                    kinds[new[name][0]] = True
                    self.assertEqual(book.behind(name), sorted(x for x in entries if name in plain_at_last(entries, x)))
                self.assertEqual(book.made(), len(plain_made(deed, before, after, old, new)), (before, deed))
                changed = [(name, old.get(name), new.get(name)) for name in sorted({*old, *new})]
                self.assertEqual(book.changed(), [row for row in changed if row[1] != row[2]])
                self.assertEqual(book.rows(), plain_rows(entries))
                self.try_shifts(book, deed, old, new)
                old = new
        self.assertEqual(set(kinds), {"circle", "missing", "through", "kind", "large", "days", "moments"})

    def try_shifts(self, book, deed, old, new):
        for name in NAMES:
            kinds = {(old.get(name) or ("none",))[0], (new.get(name) or ("none",))[0]}
            if kinds == {"days"}:
                one, two = old[name][1], new[name][1]
                self.assertEqual(book.shift(name), (without(one, two), without(two, one)))
            elif kinds == {"moments"} and deed[0] != "reform":
                one, two = old[name][1], new[name][1]
                calendar = book.calendar()
                self.assertEqual(book.shift(name), (moments_without(calendar, one, two), moments_without(calendar, two, one)))
            else:
                with self.assertRaises(NoShift):
                    book.shift(name)


class BooksTest(unittest.TestCase):

    def setUp(self):
        self.book = Book(GREGORIAN)

    def test_what_is_missing_comes_first(self):
        self.book.put("a", ("at", ("or", ("name", "x"), ("name", "b")), 5, "utc", "both"))
        self.assertEqual(self.book.answer("a"), ("missing", "utc"))
        self.book.put_zone("utc", UTC)
        self.assertEqual(self.book.answer("a"), ("missing", "x"))
        self.book.put("b", ("name", "b"))
        self.assertEqual(self.book.answer("b"), ("circle",))
        self.assertEqual(self.book.answer("a"), ("missing", "x"))
        self.book.put("x", ("days", ()))
        self.assertEqual(self.book.answer("a"), ("through", "b"))
        self.book.put("b", ("days", (4,)))
        self.assertEqual(self.book.answer("a"), ("moments", ((0, EMPTY), (5, single([4])), (6, EMPTY))))
        self.book.put_zone("utc", (1441, (), None))
        self.assertEqual(self.book.answer("a"), ("missing", "utc"))

    def test_answers(self):
        self.book.put("a", ("days", (1, 2)))
        self.book.put("b", ("set", ROW))
        self.book.put("c", ("or", ("name", "b"), ("moved", ("name", "b"), 1)))
        self.book.put("d", ("room", ("name", "a"), 5))
        self.book.put("e", ("not", ("name", "d")))
        self.assertEqual([self.book.answer(name) for name in "abcde"],
                         [("days", single([1, 2])), ("days", ROW), ("large",), ("kind", 1), ("through", "d")])
        self.assertEqual(self.book.rows(), ["a", "b", "c", "d", "e"])
        self.assertEqual(self.book.behind("b"), ["c"])
        with self.assertRaises(TooLarge):
            self.book.put("b", ("not", ("set", ROW)))
            self.book.shift("b")

    def test_wrong_values(self):
        self.book.put("a", ("days", (1,)))
        self.book.put_zone("a", UTC)
        before = (held(self.book), self.book.answer("a"), self.book.made(), self.book.changed())
        for name in (None, True, 5, "", "A", "abcdefghijklm", "a b", ("a",), ["a"], deep(tuple, 20000), deep(list, 20000)):
            for ask in (lambda: self.book.put(name, ("foo",)), lambda: self.book.drop(name),
                        lambda: self.book.put_zone(name, None), lambda: self.book.drop_zone(name)):
                with self.assertRaises(InvalidName) as caught:
                    ask()
                self.assertIs(caught.exception.name, name)
        with self.assertRaises(InvalidExpression) as caught:
            self.book.put("a", ("not", ("foo",)))
        self.assertEqual(caught.exception.place, 1)
        for zone in (None, (0, ()), (2001, (), None), deep(tuple, 20000)):
            with self.assertRaises(InvalidZone):
                self.book.put_zone("a", zone)
        for ask in (lambda: Book((*GREGORIAN[:6], 0)), lambda: self.book.reform((*GREGORIAN[:6], 0))):
            with self.assertRaises(InvalidCalendar) as caught:
                ask()
            self.assertEqual(caught.exception.word, "minutes")
        for ask in (lambda: self.book.answer("b"), lambda: self.book.behind("b")):
            with self.assertRaises(UnknownName) as caught:
                ask()
            self.assertEqual(caught.exception.name, "b")
        self.assertEqual((held(self.book), self.book.answer("a"), self.book.made(), self.book.changed()), before)
        self.assertIsNone(self.book.expression("b"))
        self.assertIsNone(self.book.zone("b"))

    def test_a_drop_of_what_is_not_held(self):
        self.book.put("a", ("name", "b"))
        self.assertEqual(self.book.made(), 1)
        self.book.drop("b")
        self.assertEqual((self.book.made(), self.book.changed()), (0, []))
        self.book.drop_zone("b")
        self.assertEqual((self.book.made(), self.book.changed()), (0, []))

    def test_shifts(self):
        with self.assertRaises(NoShift):
            self.book.shift("a")
        self.book.put("a", ("set", periodic(2, [0])))
        with self.assertRaises(NoShift):
            self.book.shift("a")
        self.book.put("a", ("set", periodic(4, [0, 1])))
        self.assertEqual(self.book.shift("a"), (periodic(4, [2]), periodic(4, [1])))
        self.book.reform((*GREGORIAN[:6], 1000))
        self.assertEqual(self.book.shift("a"), (EMPTY, EMPTY))
        self.book.put_zone("utc", UTC)
        self.book.put("m", ("at", ("set", ALL), 5, "utc", "both"))
        self.book.put_zone("utc", (7, (), None))
        self.assertEqual(self.book.shift("m")[0], ((0, EMPTY), (5, ALL), (6, EMPTY)))
        self.book.drop("x")
        self.assertEqual(self.book.shift("m"), (NEVER, NEVER))
        self.book.reform(GREGORIAN)
        with self.assertRaises(NoShift):
            self.book.shift("m")

    def test_lists_are_new(self):
        self.book.put("a", ("days", (1,)))
        for told in (self.book.names(), self.book.zones(), self.book.rows(), self.book.changed(), self.book.behind("a")):
            told.append("z")
        self.assertEqual((self.book.names(), self.book.zones(), self.book.rows(), self.book.behind("a")), (["a"], [], ["a"], []))
        self.assertEqual(self.book.changed(), [("a", None, ("days", single([1])))])


if __name__ == "__main__":
    unittest.main()
