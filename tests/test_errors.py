"""The errors of the interface, and their fields."""

import unittest

from everydue import errors
from tests.odd_values import deep

WITHOUT_FIELDS = ["NoSuchDay", "TooLarge", "InvalidZone", "NoShift", "KindsDiffer"]
FIELDS = {
    "InvalidName": "name",
    "UnknownName": "name",
    "InvalidExpression": "place",
    "InvalidCalendar": "word",
    "NoPaper": "answer",
    "InvalidWord": "number",
    "BadDeed": "number",
    "TooLate": "number",
    "NotSettled": "stamp",
}


class ErrorsTest(unittest.TestCase):

    def test_the_first_error_is_a_value_error(self):
        self.assertIs(errors.EverydueError.__bases__[0], ValueError)
        self.assertEqual(str(errors.EverydueError("no")), "no")

    def test_all_errors_are_made_from_the_first_one(self):
        for name in [*WITHOUT_FIELDS, *FIELDS]:
            kind = getattr(errors, name)
            self.assertTrue(issubclass(kind, errors.EverydueError), name)
            self.assertEqual(kind.__module__, "everydue.errors")

    def test_no_error_is_another_one(self):
        kinds = [getattr(errors, name) for name in [*WITHOUT_FIELDS, *FIELDS]]
        for one in kinds:
            self.assertEqual([two for two in kinds if issubclass(one, two)], [one])

    def test_errors_without_fields_are_made_with_one_text(self):
        for name in WITHOUT_FIELDS:
            self.assertEqual(str(getattr(errors, name)("some text")), "some text")

    def test_errors_keep_their_fields(self):
        things = [0, -7, "abc", "", None, True, (3, 4), ("days", ()), 10 ** 6000, deep(tuple, 50000), deep(list, 50000)]
        for name, field in FIELDS.items():
            for thing in things:
                with self.assertRaises(getattr(errors, name)) as caught:
                    raise getattr(errors, name)(thing)
                self.assertIs(getattr(caught.exception, field), thing)
                self.assertTrue(str(caught.exception))


if __name__ == "__main__":
    unittest.main()
