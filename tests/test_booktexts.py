"""Points 76, 77 and 84 to 89: texts of calendars, books, deeds, claims and papers."""

import unittest

from everydue.actions import is_deed
from everydue.books import Book
from everydue.booktexts import format_book, format_calendar, format_claim, format_deeds, format_paper
from everydue.booktexts import parse_book, parse_calendar, parse_claim, parse_deeds, parse_paper
from everydue.calendars import GREGORIAN
from everydue.claims import claim_fault
from everydue.daysets import ALL, EMPTY
from everydue.minutes import ALWAYS
from everydue.papers import paper_of
from everydue.zones import UTC
from tests.plain_books import CALENDARS, NAMES, ZONES, do, some_deed
from tests.plain_calendar import ALL_CALENDARS
from tests.plain_texts import BIG, LOW, some_text_dayset, some_text_expression, some_text_minuteset, some_text_zone, some_whole
from tests.test_books import held
from tests.text_case import TextCase, chance_of

GREGORIAN_TEXT = "calendar 31 28 31 30 31 30 31 31 30 31 30 31 ; 2 1 4/long 100/short 400/long ; 7 5 1440 ;"
LITTLE = "calendar 5 6 ; 2 1 2/long ; 3 1 4 ;"


class CalendarTextsTest(TextCase):

    def test_the_example(self):
        self.assertEqual(format_calendar(GREGORIAN), GREGORIAN_TEXT)
        self.assertEqual(parse_calendar(GREGORIAN_TEXT), GREGORIAN)

    def test_all(self):
        chance = chance_of(841)
        for calendar in ALL_CALENDARS:
            words = self.try_text(parse_calendar, format_calendar, calendar)
            self.try_odd_words(parse_calendar, words, chance)
            self.try_other_words(parse_calendar, words, chance)

    def test_refused(self):
        for text, number in (
            ("", 0), ("calendar", 1), ("calendar ;", 1), ("calendar 0", 1), ("calendar 61", 1), ("calendar 60 60", 3), ("calendar 5 0", 2), ("calendar 5 61", 2), ("calendar 5 ; 0", 3),
            ("calendar 5 ; 2", 3), ("calendar 5 6 ; 2 31", 5), ("calendar 5 ; 1 -1", 4), ("calendar 5 ; 1 0 0/long", 5),
            ("calendar 5 ; 1 0 1001/long", 5), ("calendar 5 ; 1 0 4/Long", 5), ("calendar 5 ; 1 0 4/long/", 5), ("calendar 5 ; 1 0 04/long", 5),
            ("calendar 5 ; 1 0 4", 5), ("calendar 5 ; 1 0 /long", 5), ("calendar 5 ; 1 0 4 /long", 5), ("calendar 5 ; 1 0 -4/long", 5),
            ("calendar 5 ; 1 0" + " 4/long" * 6 + " ; 7 0 1 ;", None), ("calendar 5 ; 1 0" + " 4/long" * 7, 11), ("calendar 5 ; 1 0 ; 0", 6),
            ("calendar 5 ; 1 0 ; 15", 6), ("calendar 5 ; 1 0 ; 14 14", 7), ("calendar 5 ; 1 0 ; 14 -1", 7), ("calendar 5 ; 1 0 ; 14 13 0", 8),
            ("calendar 5 ; 1 0 ; 14 13 2001", 8), ("calendar 5 ; 1 0 ; 14 13 2000", 9), ("calendar 5 ; 1 0 ; 14 13 2000 ;", None),
            ("calendar 5 ; 1 0 ; 14 13 2000 ; ;", 10), ("calendar" + " 1" * 24 + " ; 24 0 ; 1 0 1 ;", None), ("calendar" + " 1" * 25, 25),
            # the cycle: 1000 years of 401 days, and 997 * 991 years
            ("calendar" + " 40" * 10 + " ; 1 0 1000/long ; 1 0 1 ;", None), ("calendar" + " 40" * 10 + " ; 1 1 1000/long ; 1 0 1 ;", 19),
            ("calendar" + " 40" * 10 + " 1 ; 1 0 1000/long ; 1 0 1 ;", 20), ("calendar 1 ; 1 0 997/long 991/short ; 1 0 1 ;", 11),
            ("calendar 1 ; 1 0 997/long 991/short ; 1 0 1", 11), ("calendar 1 ; 1 0 997/long 991/short ; 1 0 1 ; ;", 11),
        ):
            self.assert_refused(parse_calendar, text, number)


class BookTextsTest(TextCase):

    def try_book(self, book):
        text = format_book(book)
        again = parse_book(text)
        self.assertIs(type(again), Book)
        self.assertEqual(held(again), held(book))
        self.assertEqual(repr(held(again)), repr(held(book)))
        self.assertEqual([again.answer(name) for name in book.names()], [book.answer(name) for name in book.names()])
        self.assertEqual(format_book(again), text)
        return text.split(" ")

    def test_examples(self):
        book = Book(GREGORIAN)
        self.assertEqual(format_book(book), f"book {GREGORIAN_TEXT} ;")
        again = parse_book(f"book {GREGORIAN_TEXT} ;")
        self.assertEqual((held(again), again.made(), again.changed()), ((GREGORIAN, {}, {}), 0, []))
        book.put("b", ("name", "a"))
        book.put("a", ("at", ("days", (5,)), 60, "utc", "both"))
        book.put_zone("utc", UTC)
        book.put_zone("far", (2000, (), None))
        text = f"book {GREGORIAN_TEXT} with far zone 2000 ; with utc zone 0 ; let a at 60 utc both days 5 ; let b @a ;"
        self.assertEqual(format_book(book), text)
        self.try_book(book)

    def test_what_is_read_is_made_by_deeds(self):
        read = parse_book(f"book {LITTLE} with p zone 0 ; let a days 1 ; let b at 1 p both @c let c @a let d @d ;")
        book = Book(CALENDARS[0])
        for deed in (("put_zone", "p", UTC), ("put", "a", ("days", (1,))), ("put", "b", ("at", ("name", "c"), 1, "p", "both")),
                     ("put", "c", ("name", "a")), ("put", "d", ("name", "d"))):
            do(book, deed)
        for name in "abcd":
            self.assertEqual(read.answer(name), book.answer(name))
        self.assertEqual((read.made(), read.changed(), read.rows()), (book.made(), book.changed(), book.rows()))
        read.put("c", ("days", ()))
        book.put("c", ("days", ()))
        self.assertEqual((read.made(), read.changed(), read.shift("b")), (book.made(), book.changed(), book.shift("b")))

    def test_by_chance(self):
        chance = chance_of(851)
        for _ in range(30):
            book = Book(chance.choice(CALENDARS))
            for _ in range(chance.randint(0, 20)):
                do(book, some_deed(chance))
            words = self.try_book(book)
            for many in range(1, len(words)):
                self.assert_refused(parse_book, words[:many], many)
            self.assert_refused(parse_book, [*words, ";"], len(words))
            self.try_odd_words(parse_book, words, chance)
            self.try_other_words(parse_book, words, chance)

    def test_refused(self):
        book = f"book {LITTLE}"
        start = len(book.split(" "))
        for text, number in (
            ("", 0), ("book", 1), ("book ;", 1), (book, start), (f"{book} ; ;", start + 1), (f"{book} with", start + 1),
            (f"{book} with A", start + 1), (f"{book} with ;", start + 1), (f"{book} with a ;", start + 2), (f"{book} with a zone 0 ;", start + 5),
            (f"{book} with a zone 0 ; with a", start + 6), (f"{book} with b zone 0 ; with a zone 0 ; ;", start + 6),
            (f"{book} with b zone 0 ; with aa zone 0 ; ;", start + 6), (f"{book} with a zone 0 ; with aa zone 0 ; ;", None),
            (f"{book} with b zone 0 ; with d zone 0 ; with c zone 0 ; ;", start + 11), (f"{book} let b @a let d @a let c @a ;", start + 7),
            (f"{book} with b zone 0 ; let a @a ;", None), (f"{book} let a @a with b", start + 3), (f"{book} let a", start + 2),
            (f"{book} let a ;", start + 2), (f"{book} let a @a let a", start + 4), (f"{book} let b @a let a @b ;", start + 4),
            (f"{book} let zzzzzzzzzzzz @a let", start + 4), (f"{book} let zzzzzzzzzzzz @a let zzzzzzzzzzzz", start + 4),
            (f"{book} let abcdefghijklm", start + 1), (f"{book} let a @a @b", start + 3), (f"{book} @a", start),
            ("book calendar 1 ; 1 0 997/long 991/short ; 1 0 1 ; ;", 12), (f"{book} let a {'not ' * 12}@a ;", start + 13),
        ):
            self.assert_refused(parse_book, text, number)


def some_action(chance):
    name = chance.choice(NAMES)
    return chance.choice([
        lambda: ("put", name, some_text_expression(chance, 6)), lambda: ("drop", name), lambda: ("put zone", name, some_text_zone(chance)),
        lambda: ("drop zone", name), lambda: ("reform", chance.choice(ALL_CALENDARS)),
        lambda: ("undo", (chance.choice([1, BIG]), chance.choice([0, 15]))),
    ])()


class DeedTextsTest(TextCase):

    def test_examples(self):
        deeds = [
            ((1, 0), ("put", "a", ("name", "b"))), ((7, 15), ("drop", "a")), ((1, 0), ("put zone", "utc", UTC)), ((2, 3), ("drop zone", "utc")),
            ((9, 9), ("reform", GREGORIAN)), ((10, 9), ("undo", (9, 9))),
        ]
        text = f"deeds 1 0 put a @b 7 15 drop a 1 0 put-zone utc zone 0 ; 2 3 drop-zone utc 9 9 reform {GREGORIAN_TEXT} 10 9 undo 9 9 ;"
        self.assertEqual(format_deeds(deeds), text)
        self.assertEqual(parse_deeds(text), deeds)
        self.assertEqual(format_deeds([]), "deeds ;")
        self.assertEqual(parse_deeds("deeds ;"), [])

    def test_by_chance(self):
        chance = chance_of(861)
        for _ in range(150):
            deeds = [((chance.randint(1, 99), chance.randint(0, 15)), some_action(chance)) for _ in range(chance.randint(0, 4))]
            if not all(is_deed(deed) for deed in deeds):
                continue
            words = self.try_text(parse_deeds, format_deeds, deeds)
            if len(words) < 120:
                self.try_odd_words(parse_deeds, words, chance)
                self.try_other_words(parse_deeds, words, chance)

    def test_refused(self):
        for text, number in (
            ("", 0), ("deeds", 1), ("deeds 0", 1), ("deeds -1", 1), ("deeds 1", 2), ("deeds 1 16", 2), ("deeds 1 -1", 2), ("deeds 1 0", 3),
            ("deeds 1 0 ;", 3), ("deeds 1 0 putzone", 3), ("deeds 1 0 put", 4), ("deeds 1 0 put A", 4), ("deeds 1 0 put a", 5),
            ("deeds 1 0 put a ;", 5), ("deeds 1 0 drop", 4), ("deeds 1 0 drop a", 5), ("deeds 1 0 drop a a", 5), ("deeds 1 0 put-zone a", 5),
            ("deeds 1 0 put-zone a zone 2001", 6), ("deeds 1 0 drop-zone ;", 4), ("deeds 1 0 reform ;", 4), ("deeds 1 0 undo", 4),
            ("deeds 1 0 undo 0", 4), ("deeds 1 0 undo 1", 5), ("deeds 1 0 undo 1 16", 5), ("deeds 1 0 undo 1 15", 6),
            ("deeds 1 0 undo 1 15 ; ;", 7), ("deeds 1 0 reform calendar 1 ; 1 0 997/long 991/short ; 1 0 1 ; ;", 15),
            (f"deeds {BIG} 0 drop a ;", None), (f"deeds {BIG + 1} 0", 1),
        ):
            self.assert_refused(parse_deeds, text, number)


class ClaimTextsTest(TextCase):

    def test_examples(self):
        a, b = ("name", "a"), ("not", ("name", "b"))
        for claim, text in (
            (("in", a, b), "claim in @a not @b"), (("same", b, a), "claim same not @b @a"), (("apart", a, b, 1000), "claim apart @a not @b 1000"),
            (("gap", b, 1), "claim gap not @b 1"), (("many", a, -5, 7, -3), "claim many @a -5 7 -3"), (("next", a, 5, None), "claim next @a 5 none"),
            (("next", a, 5, 4), "claim next @a 5 4"),
        ):
            self.assertEqual(format_claim(claim), text)
            self.assertEqual(parse_claim(text), claim)

    def test_by_chance(self):
        chance = chance_of(871)
        for _ in range(200):
            a, b, n = some_text_expression(chance, 3), some_text_expression(chance, 7), some_whole(chance)
            claim = chance.choice([
                ("in", a, b), ("same", a, b), ("apart", a, b, chance.choice([1, 1000])), ("gap", a, chance.choice([1, 1000])),
                ("many", a, n, some_whole(chance), some_whole(chance)), ("next", a, n, chance.choice([None, some_whole(chance)])),
            ])
            if claim_fault(claim) is not None:
                continue
            words = self.try_text(parse_claim, format_claim, claim)
            if len(words) < 80:
                self.try_odd_words(parse_claim, words, chance)
                self.try_other_words(parse_claim, words, chance, 3)

    def test_refused(self):
        full = "least 1 " + "@a " * 12 + ";"
        most = "least 1 " + f"{full} " * 4 + "@b " * 7 + ";"
        for text, number in (
            ("", 0), ("claim", 1), ("claim @a", 1), ("claim is @a", 1), ("claim in", 2), ("claim in ;", 2), ("claim in @a", 3), ("claim in @a ;", 3),
            ("claim in @a @b 1", 4), ("claim apart @a @b", 4), ("claim apart @a @b 0", 4), ("claim apart @a @b 1001", 4),
            ("claim apart @a @b none", 4), ("claim gap @a @b 1", 3), ("claim gap @a 0", 3), ("claim gap @a 1 ;", 4), ("claim many @a 1 2", 5),
            ("claim many @a none", 3), ("claim many @a 1 2 none", 5), ("claim many @a 1 2 3 4", 6), ("claim next @a none", 3), ("claim next @a 1", 4),
            ("claim next @a 1 None", 4), ("claim next @a 1 none none", 5), (f"claim in {most} {most}", None),
            (f"claim next @a {LOW} {BIG}", None), (f"claim next @a {LOW - 1}", 3), ("claim in not @b", 4),
        ):
            self.assert_refused(parse_claim, text, number)
        self.assert_refused(parse_claim, f"claim in @a {most[:-1]}@c ;", 3 + len(most.split(" ")) - 1)


class PaperTextsTest(TextCase):

    def test_examples(self):
        paper = (("days", EMPTY), ("moments", ((0, ALL), (5, EMPTY))), ("days", ALL))
        text = ("paper days 1 out ; 0 ; 0 1 out ; moments minutes 0 1 in ; 0 ; 0 1 in ; 5 1 out ; 0 ; 0 1 out ; ; days 1 in ; 0 ; 0 1 in ; ;")
        self.assertEqual(format_paper(paper), text)
        self.assertEqual(parse_paper(text), paper)

    def test_of_an_expression(self):
        expression = ("wide", ("at", ("place", ("not", ("days", (1, 2))), "week", (1,)), 61, "utc", "both"), 5, 70)
        paper = paper_of(GREGORIAN, {"utc": UTC}, {}, expression)
        self.assertEqual(parse_paper(format_paper(paper)), paper)

    def test_by_chance(self):
        chance = chance_of(881)
        for _ in range(150):
            paper = tuple(
                ("days", some_text_dayset(chance)) if chance.random() < 0.6 else ("moments", some_text_minuteset(chance))
                for _ in range(chance.randint(1, 4))
            )
            words = self.try_text(parse_paper, format_paper, paper)
            if len(words) < 120:
                self.try_odd_words(parse_paper, words, chance)
                self.try_other_words(parse_paper, words, chance)

    def test_refused(self):
        day = "1 out ; 0 ; 0 1 out ;"
        for text, number in (
            ("", 0), ("paper", 1), (f"paper set {day} ;", 1), (f"paper days set {day} ;", 2), ("paper days ;", 2), (f"paper days {day}", 11),
            (f"paper days {day} ;", None), (f"paper days {day} ; ;", 12), (f"paper moments 0 {day} ; ;", 2), ("paper moments minutes 1", 3),
            (f"paper moments minutes 0 {day} ;", 14), (f"paper moments minutes 0 {day} ; ;", None), (f"paper moments minutes 0 {day} 2000", 13),
            (f"paper days {day} minutes", 11), (f"days {day} ;", 0),
        ):
            self.assert_refused(parse_paper, text, number)
        self.assertEqual(parse_paper(format_paper((("moments", ALWAYS),))), (("moments", ALWAYS),))


if __name__ == "__main__":
    unittest.main()
