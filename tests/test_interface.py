"""The names and arguments of the interface, and where they are defined."""

import inspect
import unittest
from importlib import import_module

FUNCTIONS = {
    "everydue.calendars": {
        "calendar_fault": ["calendar"],
        "is_long": ["calendar", "year"],
        "cycle_of": ["calendar"],
        "day_of": ["calendar", "year", "month", "number"],
        "date_of": ["calendar", "day"],
        "weekday_of": ["calendar", "day"],
        "period_of": ["calendar", "unit", "day"],
        "first_day": ["calendar", "unit", "period"],
        "places_of": ["calendar", "unit", "day"],
        "week_of": ["calendar", "day"],
    },
    "everydue.daysets": {
        "dayset_fault": ["dayset"],
        "normal": ["dayset"],
        "single": ["days"],
        "periodic": ["period", "rests"],
        "holds": ["dayset", "day"],
    },
    "everydue.joins": {
        "union": ["one", "two"],
        "meet": ["one", "two"],
        "without": ["one", "two"],
        "other": ["dayset"],
        "moved": ["dayset", "days"],
        "mirrored": ["dayset"],
        "thinned": ["dayset", "begin", "step", "rest"],
        "measure": ["daysets"],
        "is_too_large": ["daysets"],
    },
    "everydue.questions": {
        "next_in": ["dayset", "day"],
        "last_in": ["dayset", "day"],
        "count_in": ["dayset", "first", "end"],
        "nth_from": ["dayset", "day", "number"],
        "first_difference": ["one", "two", "day"],
        "is_in": ["one", "two"],
        "meets": ["one", "two"],
        "least_gap": ["dayset"],
        "longest_break": ["dayset"],
    },
    "everydue.minutes": {
        "minuteset_fault": ["calendar", "minuteset"],
        "normal_minutes": ["calendar", "minuteset"],
        "moments_between": ["calendar", "first", "last"],
        "moments_union": ["calendar", "one", "two"],
        "moments_meet": ["calendar", "one", "two"],
        "moments_without": ["calendar", "one", "two"],
        "moments_least": ["calendar", "number", "minutesets"],
        "moments_other": ["calendar", "minuteset"],
        "moments_moved": ["calendar", "minuteset", "moment"],
        "widened": ["calendar", "minuteset", "back", "on"],
        "room": ["calendar", "minuteset", "length"],
        "moment_holds": ["calendar", "minuteset", "moment"],
        "moment_next": ["calendar", "minuteset", "moment"],
        "moment_last": ["calendar", "minuteset", "moment"],
        "moment_count": ["calendar", "minuteset", "first", "end"],
        "moment_nth": ["calendar", "minuteset", "moment", "number"],
        "moments_first_difference": ["calendar", "one", "two", "moment"],
        "moments_in": ["calendar", "one", "two"],
        "moments_meet_ever": ["calendar", "one", "two"],
        "share": ["calendar", "minuteset"],
        "apart": ["calendar", "one", "two", "minutes", "moment"],
    },
    "everydue.agendas": {
        "agenda": ["book", "first", "end", "most"],
        "clashes": ["book", "near"],
    },
    "everydue.rolls": {
        "rolled": ["one", "two", "way"],
        "first_days": ["calendar", "unit"],
        "placed": ["calendar", "dayset", "unit", "places"],
    },
    "everydue.rules": {
        "rule_fault": ["rule"],
        "tells": ["calendar", "rule", "day"],
        "rule_days": ["calendar", "rule"],
    },
    "everydue.zones": {
        "zone_word": ["calendar", "zone"],
        "offset_at": ["calendar", "zone", "moment"],
        "next_move": ["calendar", "zone", "moment"],
        "local_of": ["calendar", "zone", "moment"],
        "moments_of": ["calendar", "zone", "local", "way"],
        "offset_days": ["calendar", "zone", "minute"],
        "days_at": ["calendar", "dayset", "minute", "zone", "way"],
        "local_days": ["calendar", "minuteset", "zone"],
    },
    "everydue.expressions": {
        "expression_fault": ["expression"],
        "speaks_of": ["expression"],
        "tuples_of": ["expression"],
        "told": ["calendar", "zones", "answers", "expression"],
    },
    "everydue.books": {
        "answer_of": ["calendar", "zones", "entries", "name"],
    },
    "everydue.papers": {
        "paper_of": ["calendar", "zones", "answers", "expression"],
        "judge_paper": ["calendar", "zones", "answers", "expression", "paper"],
        "near_days": ["dayset", "back", "on"],
    },
    "everydue.claims": {
        "claim_fault": ["claim"],
        "decide": ["calendar", "zones", "answers", "claim", "near"],
        "judge_claim": ["calendar", "zones", "answers", "claim", "papers"],
        "judge_against": ["calendar", "zones", "answers", "claim", "against", "papers"],
    },
    "everydue.texts": {
        "format_rule": ["rule"],
        "parse_rule": ["text"],
        "format_dayset": ["dayset"],
        "parse_dayset": ["text"],
        "format_minuteset": ["minuteset"],
        "parse_minuteset": ["text"],
        "format_zone": ["zone"],
        "parse_zone": ["text"],
    },
    "everydue.exprtexts": {
        "format_expression": ["expression"],
        "parse_expression": ["text"],
    },
    "everydue.booktexts": {
        "format_calendar": ["calendar"],
        "parse_calendar": ["text"],
        "format_book": ["book"],
        "parse_book": ["text"],
        "format_deeds": ["deeds"],
        "parse_deeds": ["text"],
        "format_claim": ["claim"],
        "parse_claim": ["text"],
        "format_paper": ["paper"],
        "parse_paper": ["text"],
    },
    "everydue.spans": {
        "busy": ["calendar", "minuteset", "length"],
        "load": ["calendar", "minutesets", "moment"],
        "greatest_load": ["calendar", "minutesets", "moment"],
        "loads": ["calendar", "minutesets"],
        "meeting": ["calendar", "minutesets", "number", "length", "moment"],
        "turns_taken": ["calendar", "minutesets", "moment", "many"],
    },
}

METHODS = {
    ("everydue.agendas", "Watch"): {
        "__init__": ["self", "book", "near"],
        "renew": ["self"],
        "clashes": ["self"],
        "looked": ["self"],
    },
    ("everydue.books", "Book"): {
        "__init__": ["self", "calendar"],
        "put": ["self", "name", "expression"],
        "drop": ["self", "name"],
        "put_zone": ["self", "name", "zone"],
        "drop_zone": ["self", "name"],
        "reform": ["self", "calendar"],
        "calendar": ["self"],
        "names": ["self"],
        "zones": ["self"],
        "expression": ["self", "name"],
        "zone": ["self", "name"],
        "answer": ["self", "name"],
        "made": ["self"],
        "changed": ["self"],
        "shift": ["self", "name"],
        "rows": ["self"],
        "behind": ["self", "name"],
    },
    ("everydue.devices", "Device"): {
        "__init__": ["self", "calendar", "number"],
        "make": ["self", "action"],
        "receive": ["self", "deeds"],
        "book": ["self"],
        "deeds": ["self"],
        "news": ["self", "stamps"],
        "lacks": ["self", "stamps"],
        "undo_last": ["self"],
        "redo_last": ["self"],
        "settle": ["self", "stamp"],
        "laid": ["self"],
    },
}

VALUES = {
    "everydue.calendars": ["GREGORIAN"],
    "everydue.daysets": ["EMPTY", "ALL"],
    "everydue.minutes": ["NEVER", "ALWAYS"],
    "everydue.zones": ["UTC"],
}


class InterfaceTest(unittest.TestCase):

    def test_functions_stand_in_their_files_with_their_arguments(self):
        for file, functions in FUNCTIONS.items():
            module = import_module(file)
            for name, arguments in functions.items():
                function = getattr(module, name)
                self.assertEqual(function.__module__, file, name)
                self.assertEqual(list(inspect.signature(function).parameters), arguments, name)

    def test_methods_stand_in_their_classes_with_their_arguments(self):
        for (file, name), methods in METHODS.items():
            kind = getattr(import_module(file), name)
            self.assertEqual(kind.__module__, file)
            for method, arguments in methods.items():
                self.assertEqual(list(inspect.signature(vars(kind)[method]).parameters), arguments, method)

    def test_values_are_tuples(self):
        for file, names in VALUES.items():
            for name in names:
                self.assertIs(type(getattr(import_module(file), name)), tuple, name)


if __name__ == "__main__":
    unittest.main()
