"""Points 90 to 94: agendas, clashes and watches."""

import random
import unittest

from everydue.agendas import Watch, agenda, clashes
from everydue.books import Book
from everydue.calendars import GREGORIAN, day_of
from everydue.daysets import ALL, periodic
from everydue.errors import TooLarge
from everydue.zones import UTC
from tests.plain_books import CALENDARS, do, some_deed
from tests.plain_sets import plain_in
from tests.some_sets import NOTHING, calendar_with, nearest, plain_moment, some_dayset, some_minuteset


def some_book(chance, minutes):
    """A book in which some entries tell days, some moments, and some nothing at all."""
    book = Book(calendar_with(minutes))
    book.put_zone("u", UTC)
    for name in "abcdef"[:chance.randint(0, 6)]:
        kind = chance.choice(["days", "moments", "moments", "none"])
        if kind == "days":
            book.put(name, ("set", some_dayset(chance, 4, 6)))
        elif kind == "none":
            book.put(name, ("name", "zzz"))
        else:
            book.put(name, moments_of_pairs(some_minuteset(chance, minutes, 3, 5)))
    return book


def moments_of_pairs(pairs):
    """An expression that tells the moments of a minuteset: each minute of its own."""
    told = ("at", ("set", pairs[0][1]), 0, "u", "both")
    for minute, dayset in pairs[1:]:
        told = ("or", told, ("wide", ("at", ("set", dayset), minute, "u", "both"), 0, 1))
    return told


def tells(book, name, moment):
    """Whether an entry tells a moment, or the day of a moment."""
    kind, *rest = book.answer(name)
    minutes = book.calendar()[6]
    if kind == "days":
        return plain_in(rest[0], moment // minutes)
    return kind == "moments" and plain_moment(minutes, rest[0], moment)


def plain_begins(book, first, end):
    """All moments from first to end - 1 at which entries begin, with their names, by point 90."""
    found = []
    for moment in range(first, end):
        names = []
        for name in book.names():
            if book.answer(name)[0] == "days" and moment % book.calendar()[6]:
                continue
            if tells(book, name, moment) and not tells(book, name, moment - 1):
                names.append(name)
        if names:
            found.append((moment, tuple(names)))
    return found


class AgendaTest(unittest.TestCase):

    def test_against_trying(self):
        chance = random.Random(911)
        together = 0
        for _ in range(80):
            minutes = chance.randint(1, 6)
            book = some_book(chance, minutes)
            first = chance.randint(-12 * minutes, 4 * minutes)
            end = first + chance.randint(-3, 16 * minutes)
            begins = plain_begins(book, first, end)
            for most in (0, 1, 3, 1000):
                self.assertEqual(agenda(book, first, end, most), begins[:most])
            together += len([row for row in begins if len(row[1]) > 1])
        self.assertGreater(together, 50)

    def test_days_begin_with_their_first_moment(self):
        book = Book(GREGORIAN)
        book.put("b", ("days", (5, 6, 9)))
        book.put("a", ("days", (6, 9)))
        day = 1440
        self.assertEqual(agenda(book, 0, 100 * day, 9), [(5 * day, ("b",)), (6 * day, ("a",)), (9 * day, ("a", "b"))])
        self.assertEqual(agenda(book, 5 * day + 1, 9 * day, 9), [(6 * day, ("a",))])
        self.assertEqual(agenda(book, 5 * day, 9 * day + 1, 2), [(5 * day, ("b",)), (6 * day, ("a",))])
        self.assertEqual(agenda(book, 9 * day, 9 * day + 1, 2), [(9 * day, ("a", "b"))])
        self.assertEqual(agenda(book, 9 * day, 9 * day, 2), [])
        self.assertEqual(agenda(book, 9 * day, -9 * day, 2), [])
        self.assertEqual(agenda(book, 0, 100 * day, 0), [])

    def test_what_was_always_there_begins_never(self):
        book = Book(GREGORIAN)
        book.put_zone("u", UTC)
        book.put("all", ("set", ALL))
        book.put("moments", ("not", ("at", ("days", ()), 5, "u", "both")))
        self.assertEqual(agenda(book, -10 ** 30, 10 ** 30, 1000), [])
        self.assertEqual(agenda(Book(GREGORIAN), -10 ** 30, 10 ** 30, 1000), [])

    def test_far_away_and_long_ways(self):
        book = Book(GREGORIAN)
        book.put_zone("u", UTC)
        book.put("far", ("at", ("days", (10 ** 30,)), 7, "u", "both"))
        book.put("once", ("set", periodic(10 ** 12, [3])))
        self.assertEqual(agenda(book, 1440 * 4, 10 ** 40, 2),
                         [(1440 * (10 ** 12 + 3), ("once",)), (1440 * (2 * 10 ** 12 + 3), ("once",))])
        self.assertEqual(agenda(book, 1440 * 10 ** 30, 10 ** 40, 2),
                         [(1440 * 10 ** 30 + 7, ("far",)), (1440 * (10 ** 30 + 3), ("once",))])
        book.put("daily", ("at", ("set", ALL), 600, "u", "both"))
        told = agenda(book, -5000, 10 ** 40, 1000)
        self.assertEqual(len(told), 1000)
        self.assertEqual(told[:2], [(-5160 + 1440, ("daily",)), (-5160 + 2880, ("daily",))])

    def test_two_that_begin_at_one_moment(self):
        book = Book(GREGORIAN)
        book.put_zone("u", UTC)
        book.put("c", ("days", (3,)))
        book.put("a", ("wide", ("at", ("days", (3,)), 0, "u", "both"), 0, 30))
        book.put("b", ("wide", ("at", ("days", (3,)), 10, "u", "both"), 10, 0))
        book.put("d", ("wide", ("at", ("days", (3,)), 10, "u", "both"), 9, 0))
        self.assertEqual(agenda(book, 0, 10 ** 9, 9), [(4320, ("a", "b", "c")), (4321, ("d",))])

    def test_too_large(self):
        # The dayset and the same moved by 1 have 40,000 borders together, or more.
        book = Book(GREGORIAN)
        many = [(NOTHING, 0, tuple((3 * k, 3 * k + 1) for k in range(n)), 3 * n, NOTHING) for n in (10000, 10001)]
        book.put("a", ("set", many[0]))
        self.assertEqual(len(agenda(book, 0, 10 ** 9, 5)), 5)
        book.put("a", ("set", many[1]))
        for end, most in ((10 ** 9, 5), (-5, 5), (10 ** 9, 0)):
            with self.assertRaises(TooLarge):
                agenda(book, 0, end, most)
        book.drop("a")
        book.put_zone("u", UTC)
        for dayset, large in zip(many, (False, True)):
            book.put("m", ("at", ("set", dayset), 5, "u", "both"))
            if large:
                with self.assertRaises(TooLarge):
                    agenda(book, 0, 10 ** 9, 5)
            else:
                self.assertEqual(agenda(book, 0, 10 ** 9, 2), [(5, ("m",)), (3 * 1440 + 5, ("m",))])
        book.put("m", ("not", ("name", "m")))
        self.assertEqual(agenda(book, 0, 10 ** 9, 2), [])


class ClashesTest(unittest.TestCase):

    def plain_clashes(self, book, near, window):
        minutes = book.calendar()[6]
        sets = {}
        for name in book.names():
            if book.answer(name)[0] == "moments":
                sets[name] = {u for u in window if plain_moment(minutes, book.answer(name)[1], u)}
        found = []
        for one in sorted(sets):
            for two in sorted(sets):
                if one < two and sets[one] & sets[two]:
                    found.append((one, two, nearest(sets[one] & sets[two], near)))
        return found

    def test_against_trying(self):
        chance = random.Random(921)
        found = 0
        for _ in range(120):
            minutes = chance.randint(1, 6)
            book = some_book(chance, minutes)
            near = chance.randint(-6 * minutes, 6 * minutes)
            told = clashes(book, near)
            self.assertEqual(told, self.plain_clashes(book, near, range(-30 * minutes, 30 * minutes)))
            found += len(told)
        self.assertGreater(found, 50)

    def test_the_nearest_meeting(self):
        book = Book(calendar_with(10))
        book.put_zone("u", UTC)
        book.put("b", ("at", ("days", (1, 3)), 5, "u", "both"))
        book.put("a", ("at", ("set", ALL), 5, "u", "both"))
        book.put("c", ("at", ("set", ALL), 6, "u", "both"))
        book.put("d", ("days", (1, 3)))
        for near, moment in ((25, 35), (24, 15), (26, 35), (-10 ** 30, 15), (10 ** 30, 35)):
            self.assertEqual(clashes(book, near), [("a", "b", moment)])
        self.assertEqual(clashes(Book(GREGORIAN), 0), [])

    def test_large(self):
        book = Book(calendar_with(10))
        book.put_zone("u", UTC)
        runs = tuple((2 * k, 2 * k + 1) for k in range(10001))
        large = ("set", (NOTHING, 0, runs, 20001, NOTHING))
        book.put("a", ("at", large, 5, "u", "both"))
        book.put("b", ("at", large, 6, "u", "both"))
        book.put("c", ("at", ("days", (2,)), 5, "u", "both"))
        self.assertEqual(clashes(book, 0), [("a", "b", "large"), ("a", "c", 25)])


class WatchTest(unittest.TestCase):

    def test_after_each_deed_by_chance(self):
        chance = random.Random(931)
        for _ in range(25):
            book = Book(chance.choice(CALENDARS))
            near = chance.randint(-20, 20)
            watch = Watch(book, near)
            self.assertEqual((watch.clashes(), watch.looked()), ([], 0))
            last, last_calendar = {}, book.calendar()
            for _ in range(15):
                former = watch.clashes()
                for _ in range(chance.randint(0, 3)):
                    do(book, some_deed(chance))
                self.assertEqual(watch.clashes(), former)
                answers = {name: book.answer(name) for name in book.names()}
                answers = {name: answer for name, answer in answers.items() if answer[0] == "moments"}
                watch.renew()
                self.assertEqual(watch.clashes(), clashes(book, near))
                names = sorted(answers)
                pairs = [(one, two) for one in names for two in names if one < two]
                if book.calendar() == last_calendar:
                    pairs = [(one, two) for one, two in pairs
                             if last.get(one) != answers[one] or last.get(two) != answers[two]]
                self.assertEqual(watch.looked(), len(pairs))
                last, last_calendar = answers, book.calendar()

    def setUp(self):
        self.book = Book(calendar_with(10))
        self.book.put_zone("u", UTC)
        for name, minute in (("a", 5), ("b", 5), ("c", 6), ("d", 5)):
            self.book.put(name, ("at", ("set", periodic(2, [0])), minute, "u", "both"))
        self.book.put("e", ("days", (1, 2)))
        self.watch = Watch(self.book, 0)

    def renew(self):
        self.watch.renew()
        self.assertEqual(self.watch.clashes(), clashes(self.book, 0))
        return self.watch.looked()

    def test_a_new_watch_has_looked_at_all_pairs(self):
        self.assertEqual(self.watch.looked(), 6)
        self.assertEqual(self.watch.clashes(), [("a", "b", 5), ("a", "d", 5), ("b", "d", 5)])

    def test_each_kind_of_change(self):
        self.assertEqual(self.renew(), 0)
        # The same answer by another expression.
        self.book.put("a", ("moved", ("name", "b"), 0))
        self.assertEqual(self.renew(), 0)
        # Another answer, and with it that of a.
        self.book.put("b", ("at", ("set", periodic(2, [1])), 5, "u", "both"))
        self.assertEqual(self.renew(), 5)
        self.book.put("c", ("at", ("set", ALL), 5, "u", "both"))
        self.assertEqual(self.renew(), 3)
        # One more, and one that tells days.
        self.book.put("f", ("at", ("days", (4,)), 5, "u", "both"))
        self.assertEqual(self.renew(), 4)
        self.book.put("g", ("days", (4,)))
        self.assertEqual(self.renew(), 0)
        # One that tells days now, and moments again.
        self.book.put("f", ("days", (4,)))
        self.assertEqual(self.renew(), 0)
        self.book.put("f", ("at", ("days", (4,)), 5, "u", "both"))
        self.assertEqual(self.renew(), 4)
        self.book.drop("d")
        self.assertEqual(self.renew(), 0)
        # A zone moves all, another calendar makes all pairs new.
        self.book.put_zone("u", (1, (), None))
        self.assertEqual(self.renew(), 6)
        self.book.put_zone("u", (1, (), None))
        self.assertEqual(self.renew(), 0)
        self.book.reform(((2,), 1, 0, (), 1, 0, 10))
        self.assertEqual(self.renew(), 6)
        self.assertEqual(self.renew(), 0)

    def test_new_pairs_stand_among_those_that_are_kept(self):
        self.book.put("b", ("at", ("set", ALL), 5, "u", "both"))
        self.assertEqual(self.renew(), 3)
        self.assertEqual([row[:2] for row in self.watch.clashes()], [("a", "b"), ("a", "d"), ("b", "d")])
        self.book.put("d", ("at", ("days", (2,)), 5, "u", "both"))
        self.assertEqual(self.renew(), 3)
        self.assertEqual(self.watch.clashes(), [("a", "b", 5), ("a", "d", 25), ("b", "d", 25)])

    def test_a_change_that_is_taken_back(self):
        self.book.drop("a")
        self.book.put("a", ("at", ("set", periodic(2, [0])), 5, "u", "both"))
        calendar = self.book.calendar()
        self.book.reform(GREGORIAN)
        self.book.reform(calendar)
        self.assertEqual(self.renew(), 0)

    def test_lists_are_new_and_the_book_stays(self):
        self.watch.clashes().append(5)
        self.assertEqual(self.watch.clashes(), clashes(self.book, 0))
        made = self.book.made()
        self.watch.renew()
        self.assertEqual((self.book.made(), self.book.names()), (made, ["a", "b", "c", "d", "e"]))

    def test_between_two_looks(self):
        before = self.watch.clashes()
        self.book.drop("a")
        self.book.reform(GREGORIAN)
        self.assertEqual((self.watch.clashes(), self.watch.looked()), (before, 6))

    def test_large_pairs(self):
        runs = tuple((2 * k, 2 * k + 1) for k in range(10001))
        large = ("set", (NOTHING, 0, runs, 20001, NOTHING))
        for name in "xy":
            self.book.put(name, ("at", large, 5, "u", "both"))
        self.renew()
        self.assertIn(("x", "y", "large"), self.watch.clashes())
        self.book.put("y", ("at", ("days", (day_of(GREGORIAN, 2026, 1, 1),)), 5, "u", "both"))
        self.assertEqual(self.renew(), 5)


if __name__ == "__main__":
    unittest.main()
