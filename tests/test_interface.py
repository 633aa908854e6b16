"""The names and arguments of the interface, and where they are defined."""

import inspect
import unittest
from importlib import import_module

FUNCTIONS = {
    "everydue.calendars": {
        "calendar_fault": ["calendar"],
        "is_long": ["calendar", "year"],
        "cycle_of": ["calendar"],
        "day_of": ["calendar", "year", "month", "number"],
        "date_of": ["calendar", "day"],
        "weekday_of": ["calendar", "day"],
        "period_of": ["calendar", "unit", "day"],
        "first_day": ["calendar", "unit", "period"],
        "places_of": ["calendar", "unit", "day"],
        "week_of": ["calendar", "day"],
    },
    "everydue.daysets": {
        "dayset_fault": ["dayset"],
        "normal": ["dayset"],
        "single": ["days"],
        "periodic": ["period", "rests"],
        "holds": ["dayset", "day"],
    },
}


class InterfaceTest(unittest.TestCase):

    def test_functions_stand_in_their_files_with_their_arguments(self):
        for file, functions in FUNCTIONS.items():
            module = import_module(file)
            for name, arguments in functions.items():
                function = getattr(module, name)
                self.assertEqual(function.__module__, file, name)
                self.assertEqual(list(inspect.signature(function).parameters), arguments, name)


if __name__ == "__main__":
    unittest.main()
