"""Points 77, 79 and 80: the borders of sides, in all texts in which they stand, compared with all right sides."""

import itertools
import unittest

from everydue.booktexts import format_calendar, parse_book, parse_claim, parse_deeds, parse_paper
from everydue.calendars import GREGORIAN
from everydue.exprtexts import parse_expression
from everydue.texts import parse_dayset, parse_minuteset
from tests.text_case import TextCase

LEFT_REST = "0 ; 0 1 in ;"
DAY = "1 in ; 0 ; 0 1 in ;"

# What reads a text, the words ahead of a side in it and those behind this side.
FRAMES = [
    (parse_dayset, "set", LEFT_REST),
    (parse_dayset, "set 1 out ; 5 7..9 ; 9", ""),
    (parse_minuteset, "minutes 0", LEFT_REST + " ;"),
    (parse_minuteset, "minutes 0 1 in ; 0 ; 0", ";"),
    (parse_minuteset, f"minutes 0 {DAY} 7", LEFT_REST + f" 1999 {DAY} ;"),
    (parse_minuteset, f"minutes 0 {DAY} 1999 1 in ; 0 ; 0", ";"),
    (parse_expression, "set", LEFT_REST),
    (parse_expression, "or @a not set 1 out ; 0 ; 0", ""),
    (parse_expression, "without @a least 1 moved 5 set", LEFT_REST + " ;"),
    (parse_expression, f"and set {DAY} on set", LEFT_REST + " @b"),
    (parse_book, f"book {format_calendar(GREGORIAN)} let a set", LEFT_REST + " let b @a ;"),
    (parse_book, f"book {format_calendar(GREGORIAN)} with berlin zone 60 ; let a set 1 out ; 0 ; 0", ";"),
    (parse_deeds, "deeds 1 0 put a set", LEFT_REST + " ;"),
    (parse_deeds, "deeds 1 0 drop a 2 0 put b not set 1 in ; 0 ; 0", "3 0 drop b ;"),
    (parse_claim, "claim gap set", LEFT_REST + " 3"),
    (parse_claim, "claim same @a set 1 in ; 0 ; 0", ""),
    (parse_paper, "paper days", LEFT_REST + " ;"),
    (parse_paper, f"paper days {DAY} moments minutes 0", LEFT_REST + " ; ;"),
]


def right_rows(period):
    """The words of the borders, and the one behind them, of all right sides with a period."""
    rows = []
    for many in range(0, period + 1, 2):
        rows.extend([*map(str, borders), ";"] for borders in itertools.combinations(range(period), many))
    return rows


def first_wrong(rows, words):
    """The place of the first word with which no row goes on, the number of words if one only begins with them, or None."""
    for place in range(len(words)):
        if not any(row[:place + 1] == words[:place + 1] for row in rows):
            return place
    return None if words in rows else len(words)


class SideTextsTest(TextCase):

    def try_rows(self, frame, period, most):
        """All rows of so many borders, and the words behind them, are refused as the right sides ask for, or read."""
        parse, ahead, behind = frame
        rows = right_rows(period)
        start = [*ahead.split(" "), str(period), "in"]
        end = behind.split(" ") if behind else []
        for many in range(most + 1):
            for borders in itertools.product(range(period + 1), repeat=many):
                row = [*map(str, borders), ";"]
                wrong = first_wrong(rows, row)
                self.assert_refused(parse, [*start, *row, *end], None if wrong is None else len(start) + wrong)
                if borders:
                    self.assert_refused(parse, [*start, *row[:-1]], len(start) + first_wrong(rows, row[:-1]))

    def test_all_little_sides(self):
        for frame in FRAMES[:2]:
            for period in (1, 2, 3, 4, 5):
                self.try_rows(frame, period, 4)
            self.try_rows(frame, 3, 6)

    def test_in_all_texts(self):
        for frame in FRAMES:
            with self.subTest(ahead=frame[1]):
                for period in (1, 2, 3):
                    self.try_rows(frame, period, 3)

    def test_great_periods(self):
        for parse, ahead, behind in FRAMES:
            many = len(ahead.split(" "))
            for borders, number in (
                ("999999999999", 2), ("999999999998 999999999999", None), ("999999999998", 3), ("0 1 999999999999", 4), ("0 1 999999999998", 5),
                ("0 999999999999", None), ("0 999999999999 0", 4), ("0 999999999999 999999999999", 4), ("0 1000000000000", 3),
                ("1000000000000", 2), ("-1", 2), ("5 5", 3), ("5 4", 3), ("0 5 5", 4), ("0 5 4", 4),
            ):
                text = f"{ahead} 1000000000000 out {borders} ; {behind}".rstrip(" ")
                self.assert_refused(parse, text, None if number is None else many + number)

    def test_of_the_issue(self):
        for text, number in (
            ("1 out 0 ;", 2), ("1 out 0", 2), ("1 in 0 1", 2), ("5 out 4 ;", 2), ("5 out 4 4 ;", 2), ("3 in 0 1 2 ;", 4), ("3 in 0 1 2", 4),
            ("5 out 3 ;", 3), ("5 out 3 3", 3), ("5 out 3 5", 3), ("2 in 1", 2), ("2 in 0", 3), ("2 in 0 1 ;", 5),
        ):
            self.assert_refused(parse_dayset, "set " + text, 1 + number)
            self.assert_refused(parse_dayset, "set 1 in ; 0 ; 0 " + text, None if (text, number) == ("2 in 0 1 ;", 5) else 7 + number)
            self.assert_refused(parse_minuteset, "minutes 0 " + text, 2 + number)
            self.assert_refused(parse_minuteset, f"minutes 0 {DAY} 8 " + text, 12 + number)
            self.assert_refused(parse_expression, "set " + text, 1 + number)
            self.assert_refused(parse_expression, "or @a and not @b set " + text, 6 + number)
            self.assert_refused(parse_paper, "paper moments minutes 0 " + text, 4 + number)


if __name__ == "__main__":
    unittest.main()
