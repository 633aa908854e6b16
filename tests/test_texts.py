"""Points 76 to 81 and 83: texts of rules, daysets, minutesets and zones."""

import unittest

from everydue.daysets import ALL, EMPTY, dayset_fault
from everydue.minutes import minuteset_fault
from everydue.rules import rule_fault
from everydue.texts import format_dayset, format_minuteset, format_rule, format_zone
from everydue.texts import parse_dayset, parse_minuteset, parse_rule, parse_zone
from everydue.zones import UTC, zone_word
from tests.plain_texts import BIG, LOW, some_text_dayset, some_text_minuteset, some_text_rule, some_text_zone
from tests.some_sets import calendar_with
from tests.text_case import TextCase, chance_of


class RuleTextsTest(TextCase):

    def test_the_example(self):
        rule = ("month", 2, 0, (("month weekdays", ((0, 1), (0, -1))),), (), 730000, None, None)
        text = "rule month 2 0 month-weekdays 0/1 0/-1 since 730000 ;"
        self.assertEqual(format_rule(rule), text)
        self.assertEqual(parse_rule(text), rule)

    def test_all_parts(self):
        rule = ("year", 1000, -5, (("months", (1, -2)), ("days", (31,)), ("year days", (2000, -2000)), ("weekdays", (0, 13)),
                ("month weekdays", ((13, 400),)), ("year weekdays", ((0, -400), (0, 400))), ("weeks", (-53,))), (400, -400), -1, 9, 10 ** 9)
        text = ("rule year 1000 -5 months 1 -2 days 31 year-days 2000 -2000 weekdays 0 13 month-weekdays 13/400"
                " year-weekdays 0/-400 0/400 weeks -53 places 400 -400 since -1 until 9 number 1000000000 ;")
        self.assertEqual(format_rule(rule), text)
        self.assertEqual(parse_rule(text), rule)

    def test_by_chance(self):
        chance = chance_of(781)
        for _ in range(300):
            rule = some_text_rule(chance)
            words = self.try_text(parse_rule, format_rule, rule)
            self.assertIsNone(rule_fault(rule))
            self.try_odd_words(parse_rule, words, chance)
            self.try_other_words(parse_rule, words, chance)

    def test_refused(self):
        for text, number in (
            ("", 0), (" ", 0), ("rule", 1), ("rules day 1 0 ;", 0), ("rule days", 1), ("rule day 0", 2), ("rule day 1001", 2),
            ("rule day -1", 2), ("rule day 1 none", 3), ("rule day 1 0 ; ;", 5), ("rule day 1 0 months", 5), ("rule day 1 0 months ;", 5),
            ("rule day 1 0 months 0", 5), ("rule day 1 0 months 2001", 5), ("rule day 1 0 months -2001", 5), ("rule day 1 0 months 1/1", 5),
            ("rule day 1 0 months 3 4 3 ;", 7), ("rule day 1 0 months 3 x4", 6), ("rule day 1 0 places 3 4x", 6), ("rule day 1 0 months 3 months 4", 6), ("rule day 1 0 days 3 months 4", 6),
            ("rule day 1 0 weekdays 14", 5), ("rule day 1 0 weekdays -1", 5), ("rule day 1 0 month-weekdays 1", 5),
            ("rule day 1 0 month-weekdays 14/1", 5), ("rule day 1 0 month-weekdays 1/0", 5), ("rule day 1 0 month-weekdays 1/401", 5),
            ("rule day 1 0 month-weekdays 1/-0", 5), ("rule day 1 0 month-weekdays 1/1/1", 5), ("rule day 1 0 month-weekdays -1/1", 5),
            ("rule day 1 0 month-weekdays 1/1 1/2 1/1", 7), ("rule day 1 0 year-weekdays 0/-401", 5), ("rule day 1 0 month weekdays", 4),
            ("rule day 1 0 places", 5), ("rule day 1 0 places ;", 5), ("rule day 1 0 places 0", 5), ("rule day 1 0 places 401", 5),
            ("rule day 1 0 places 1 1", 6), ("rule day 1 0 places 1 2 3 4 5 6 7 8 9 10 11 12 13 ;", 17),
            ("rule day 1 0 places 1 months 1", 6), ("rule day 1 0 since", 5), ("rule day 1 0 since none", 5),
            ("rule day 1 0 until 5 since 3", 6), ("rule day 1 0 since 5 since 3", 6), ("rule day 1 0 since 5 places 3", 6),
            ("rule day 1 0 number 5 ;", 4), ("rule day 1 0 until 3 number 5 ;", 6), ("rule day 1 0 since 3 number 0", 7),
            ("rule day 1 0 since 3 number 1000000001", 7), ("rule day 1 0 since 3 number 5 until 3", 8), ("rule day 1  0 ;", 3),
            ("rule day 01 0 ;", 2), ("rule day 1 -0 ;", 3), (f"rule day 1 {BIG + 1} ;", 3), (f"rule day 1 {LOW - 1} ;", 3),
            (f"rule day 1 {BIG} ;", None), (f"rule day 1 {LOW} since {BIG} ;", None), ("rule day 1 0 since 9 until 3 ;", None),
        ):
            self.assert_refused(parse_rule, text, number)

    def test_so_many_members(self):
        members = list(range(1, 61))
        text = "rule day 1 0 year-days " + " ".join(str(n) for n in members)
        self.assertEqual(parse_rule(text + " ;")[3], (("year days", tuple(members)),))
        self.assert_refused(parse_rule, text + " 61 ;", 65)
        self.assert_refused(parse_rule, text + " 60 ;", 65)


class DaysetTextsTest(TextCase):

    def test_the_example(self):
        text = "set 1 out ; 5 7..9 ; 9 7 out 0 1 ;"
        dayset = ((1, (), False), 5, ((7, 9),), 9, (7, (0, 1), False))
        self.assertEqual(format_dayset(dayset), text)
        self.assertEqual(parse_dayset(text), dayset)
        self.assertEqual(format_dayset(EMPTY), "set 1 out ; 0 ; 0 1 out ;")
        self.assertEqual(format_dayset(ALL), "set 1 in ; 0 ; 0 1 in ;")

    def test_by_chance(self):
        chance = chance_of(791)
        for _ in range(300):
            dayset = some_text_dayset(chance)
            self.assertIsNone(dayset_fault(dayset))
            words = self.try_text(parse_dayset, format_dayset, dayset)
            self.try_odd_words(parse_dayset, words, chance)
            self.try_other_words(parse_dayset, words, chance)

    def test_refused(self):
        for text, number in (
            ("", 0), ("set", 1), ("1 out ; 0 ; 0 1 out ;", 0), ("set 0", 1), ("set -1", 1), ("set 1000000000000", 2),
            ("set 1000000000001", 1), ("set 1 on", 2), ("set 1 out 0", 3), ("set 1 out 0 ;", 3), ("set 1 out 1", 3), ("set 7 in 0 ;", 4),
            ("set 7 in 5", 4), ("set 7 in 6", 3), ("set 7 in 5 7", 4), ("set 7 in 3 3", 4), ("set 7 in 3 2", 4), ("set 7 in 3 5 4", 5), ("set 7 in 3 5 6 ;", 5), ("set 8 in 3 5 6 ;", 6),
            ("set 7 in -1", 3), ("set 7 in 0..1", 3), ("set 1 out ; none", 4), ("set 1 out ; 5 4..6", 5), ("set 1 out ; 5 5..5", 5),
            ("set 1 out ; 5 6..5", 5), ("set 1 out ; 5 5..6 6..8", 6), ("set 1 out ; 5 5..6 7..8 ; 7", 8), ("set 1 out ; 5 5..6 7..8 ; 8", 9),
            ("set 1 out ; 5 ; 4", 6), ("set 1 out ; 5 ; 5", 7), ("set 1 out ; 5 7", 5), ("set 1 out ; 5 ; 6..7", 6), ("set 1 out ; 5 7..", 5),
            ("set 1 out ; 5 7...8", 5), ("set 1 out ; 5 07..8", 5), ("set 1 out ; 5 7..-8", 5), ("set 1 out ; -9 -8..-7 ; -7 1 out ;", None),
            ("set 1 out ; 0 ; 0 1 out ; ;", 10), ("set 1 out ; 0 ; 0 1 out", 9), ("set 1 out ; 0  ; 0 1 out ;", 5), ("set  1 out ;", 1),
            (f"set 1 out ; {LOW} {LOW + 1}..{BIG} ; {BIG} 1 out ;", None), (f"set 1 out ; 0 1..{BIG + 1} ;", 5),
            (f"set 1 out ; {BIG} ; {BIG} 1 out ;", None),
        ):
            self.assert_refused(parse_dayset, text, number)

    def test_so_many_borders(self):
        borders = tuple(range(40000))
        runs = tuple((3 * k, 3 * k + 1) for k in range(40000))
        dayset = ((10 ** 6, borders, True), 0, runs, 200000, (50000, borders, False))
        text = format_dayset(dayset)
        self.assertEqual(parse_dayset(text), dayset)
        words = text.split(" ")
        self.assert_refused(parse_dayset, [*words[:40003], "40000", *words[40003:]], 40003)
        self.assertEqual(words[40003], ";")
        end = words.index(";", 40004)
        self.assert_refused(parse_dayset, [*words[:end], "199000..199001", *words[end:]], end)
        self.assert_refused(parse_dayset, [*words[:-1], "40000", "40001", ";"], len(words) - 1)


class MinutesetTextsTest(TextCase):

    def test_by_chance(self):
        chance = chance_of(801)
        for _ in range(100):
            minuteset = some_text_minuteset(chance)
            self.assertIsNone(minuteset_fault(calendar_with(2000), minuteset))
            words = self.try_text(parse_minuteset, format_minuteset, minuteset)
            self.try_odd_words(parse_minuteset, words, chance)
            self.try_other_words(parse_minuteset, words, chance)

    def test_examples(self):
        text = "minutes 0 1 out ; 0 ; 0 1 out ; 5 1 in ; 0 ; 0 1 in ; ;"
        self.assertEqual(format_minuteset(((0, EMPTY), (5, ALL))), text)
        self.assertEqual(parse_minuteset(text), ((0, EMPTY), (5, ALL)))

    def test_refused(self):
        day = "1 out ; 0 ; 0 1 out ;"
        for text, number in (
            ("", 0), ("minutes", 1), ("minutes ;", 1), ("minutes 1", 1), ("minutes -1", 1), ("minutes 0", 2), ("minutes 0 ;", 2), (f"minutes 0 {day}", 11),
            (f"minutes 0 {day} ;", None), (f"minutes 0 {day} ; ;", 12), (f"minutes 0 {day} 0", 11), (f"minutes 0 {day} 2000", 11),
            (f"minutes 0 {day} 1999 {day} ;", None), (f"minutes 0 {day} 1999 {day} 1999", 21), (f"minutes 0 {day} 1999 {day} 2000", 21),
            (f"minutes 0 {day} 7 {day} 6", 21), (f"minutes 0 {day} 7 {day} 7", 21), (f"minutes 0 set {day} ;", 2), (f"0 {day} ;", 0),
            (f"minutes 0 {day} 1 1 out 0 ;", 14), (f"minutes 0 {day} 1 2 out 0 ;", 15), ("minutes 0 5 in 4 ;", 4), ("minutes 0 5 in 0 1 4", 6),
        ):
            self.assert_refused(parse_minuteset, text, number)


class ZoneTextsTest(TextCase):

    def test_examples(self):
        zone = (60, ((-5, 0), (7, 60)), (1996, ((3, -1, 6, 60, 120), (10, -1, None, 60, 60))))
        text = "zone 60 move -5 0 move 7 60 from 1996 turn 3 -1 6 60 120 turn 10 -1 any 60 60 ;"
        self.assertEqual(format_zone(zone), text)
        self.assertEqual(parse_zone(text), zone)
        self.assertEqual(format_zone(UTC), "zone 0 ;")

    def test_by_chance(self):
        chance = chance_of(811)
        for _ in range(200):
            zone = some_text_zone(chance)
            words = self.try_text(parse_zone, format_zone, zone)
            self.try_odd_words(parse_zone, words, chance)
            self.try_other_words(parse_zone, words, chance)
            self.assertNotEqual(zone_word(calendar_with(1), zone), "form")

    def test_refused(self):
        row = "turn 1 1 any 0 0"
        for text, number in (
            ("", 0), ("zone", 1), ("zone ;", 1), ("zone 2001", 1), ("zone -2001", 1), ("zone -2000", 2), ("zone 0 5", 2), ("zone 0 ; ;", 3),
            ("zone 0 move", 3), ("zone 0 move 5", 4), ("zone 0 move 5 2001", 4), ("zone 0 move 5 0 move 5", 6), ("zone 0 move 5 0 move 4", 6),
            ("zone 0 move 5 0 move 6 0 ;", None), ("zone 0 move 5 0 move 9 0 move 7", 9), ("zone 0 from", 3), ("zone 0 from 5 ;", 4), ("zone 0 from 5 move", 4), ("zone 0 from none", 3),
            (f"zone 0 from -5 {row} ;", None), (f"zone 0 from 5 {row} move 1 1", 10), (f"zone 0 from 5 {row} from 6", 10),
            (f"zone 0 from 5 {row} {row} {row} {row} ;", None), (f"zone 0 from 5 {row} {row} {row} {row} turn", 28),
            ("zone 0 from 5 turn 0", 5), ("zone 0 from 5 turn 1 0", 6), ("zone 0 from 5 turn 1 -1 -1", 7), ("zone 0 from 5 turn 1 -1 none", 7),
            ("zone 0 from 5 turn 1 -1 0 -1", 8), ("zone 0 from 5 turn 1 -1 0 any", 8), ("zone 0 from 5 turn 1 -1 0 0 2001", 9),
            (f"zone 0 from 5 turn {BIG} {BIG} {BIG} {BIG} 0 ;", None), (f"zone 0 from 5 turn {BIG + 1}", 5),
        ):
            self.assert_refused(parse_zone, text, number)

    def test_so_many_moves(self):
        text = "zone 0 " + " ".join(f"move {k} 0" for k in range(60))
        self.assertEqual(len(parse_zone(text + " ;")[1]), 60)
        self.assert_refused(parse_zone, text + " move 60 0 ;", 182)
        self.assert_refused(parse_zone, text + " from 3", 184)


if __name__ == "__main__":
    unittest.main()
