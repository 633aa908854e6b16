"""Points 76, 77, 82 and 83: texts of expressions."""

import unittest

from everydue.daysets import ALL
from everydue.expressions import expression_fault
from everydue.exprtexts import format_expression, parse_expression
from tests.plain_texts import BIG, Given, some_text_expression
from tests.test_expression_faults import GOOD
from tests.text_case import TextCase, chance_of


class ExpressionTextsTest(TextCase):

    def test_examples(self):
        for expression, text in (
            (("rule", ("day", 1, 0, (), (), None, None, None)), "rule day 1 0 ;"),
            (("set", ALL), "set 1 in ; 0 ; 0 1 in ;"),
            (("days", ()), "days ;"),
            (("days", (-3, 0, 5)), "days -3 0 5 ;"),
            (("name", "abc"), "@abc"),
            (("or", ("name", "a"), ("and", ("name", "b"), ("name", "c"))), "or @a and @b @c"),
            (("without", ("on", ("name", "a"), ("name", "b")), ("name", "c")), "without on @a @b @c"),
            (("back", ("name", "a"), ("near", ("name", "b"), ("name", "c"))), "back @a near @b @c"),
            (("not", ("not", ("name", "a"))), "not not @a"),
            (("least", 2, (("name", "a"), ("name", "b"), ("name", "c"))), "least 2 @a @b @c ;"),
            (("moved", ("name", "a"), -5), "moved -5 @a"),
            (("between", ("name", "a"), None, 7), "between none 7 @a"),
            (("between", ("name", "a"), 8, None), "between 8 none @a"),
            (("place", ("name", "a"), "month", (1, -1)), "place month 1 -1 ; @a"),
            (("place", ("name", "a"), "day", ()), "place day ; @a"),
            (("every", ("name", "a"), -9, 3, 2), "every -9 3 2 @a"),
            (("at", ("name", "a"), 540, "berlin", "later"), "at 540 berlin later @a"),
            (("local days", ("name", "a"), "utc"), "local-days utc @a"),
            (("wide", ("name", "a"), 0, 29), "wide 0 29 @a"),
            (("room", ("name", "a"), 60), "room 60 @a"),
        ):
            self.assertEqual(format_expression(expression), text)
            self.assertEqual(parse_expression(text), expression)

    def test_all_forms(self):
        for expression in GOOD:
            self.try_text(parse_expression, format_expression, expression)

    def test_by_chance(self):
        chance = chance_of(821)
        kinds = {}
        for _ in range(250):
            expression = some_text_expression(chance)
            if expression_fault(expression) is not None:
                continue
            kinds[expression[0]] = True
            words = self.try_text(parse_expression, format_expression, expression)
            if len(words) < 80:
                self.try_odd_words(parse_expression, words, chance)
                self.try_other_words(parse_expression, words, chance, 3)
        self.assertEqual(len(kinds), 20)

    def test_refused(self):
        for text, number in (
            ("", 0), ("a", 0), ("@", 0), ("@a @b", 1), ("@abcdefghijklm", 0), ("@A", 0), ("@a1", 0), ("@@a", 0), (" @a", 0), ("@a ", 1),
            ("days", 1), ("days 1", 2), ("days 1 1", 2), ("days 2 1", 2), ("days 1 5 3 ;", 3), ("days 1 5 5 ;", 3), ("days none", 1), ("days -1 0 1 ; ;", 5), ("name a", 0), ("@ a", 0),
            ("set", 1), ("set ;", 1), ("set 1 out 0 ;", 3), ("not set 5 in 4", 4), ("set 5 in 3 ;", 4), ("or @a set 3 in 0 1 2 ;", 7),
            ("rule ;", 1), ("rules", 0), ("or", 1), ("or @a", 2), ("or ; @a", 1), ("or @a ;", 2), ("or @a @b ;", 3),
            ("not", 1), ("not ;", 1), ("least", 1), ("least 0", 1), ("least 13", 1), ("least @a ;", 1), ("least 1", 2), ("least 1 ;", 2),
            ("least 2 @a ;", 3), ("least 2 @a @b", 4), ("least 2 @a @b ; ;", 5), ("least 2 @a @b ) ;", 4),
            ("least 12" + " @a" * 11 + " ;", 13), ("least 12" + " @a" * 12 + " ;", None), ("least 1" + " @a" * 13 + " ;", 14),
            ("moved @a 1", 1), ("moved none @a", 1), ("moved 1", 2), ("moved 1 ;", 2), ("between 1 @a", 2), ("between none none ;", 3),
            ("between 1 2 3", 3), ("place day 1 @a", 3), ("place day 1 1", 3), ("place day 0", 2), ("place day 401", 2), ("place days", 1),
            ("place day " + " ".join(str(n) for n in range(1, 14)), 14), ("place day ; ;", 3), ("every 1 0", 2), ("every 1 1001", 2),
            ("every 1 5 5", 3), ("every 1 5 -1", 3), ("every 1 5 4", 4), ("every none", 1), ("at -1", 1), ("at 2000", 1), ("at 1999 Utc", 2),
            ("at 1999 utc never", 3), ("at 1999 utc both", 4), ("local days utc @a", 0), ("local-days @a", 1), ("local-days utc", 2),
            ("wide -1", 1), ("wide 0 -1", 2), ("wide 0 0", 3), ("room 0", 1), ("room 1", 2), (f"room {BIG} @a", None), (f"room {BIG + 1} @a", 1),
            ("on @a", 2), ("back", 1), ("near @a @b @c", 3),
        ):
            self.assert_refused(parse_expression, text, number)

    def test_so_many_days(self):
        text = "days " + " ".join(str(day) for day in range(200))
        self.assertEqual(len(parse_expression(text + " ;")[1]), 200)
        self.assert_refused(parse_expression, text + " 200 ;", 201)

    def test_tuples_in_one_another(self):
        for word in ("not", "or", "moved 1", "least 1", "place day ;", "at 1 utc both"):
            many = len(word.split(" "))
            text = " ".join([word] * 11 + ["@a"])
            if word in ("or", "least 1"):
                self.assert_refused(parse_expression, text, 11 * many + 1)
            else:
                self.assert_refused(parse_expression, text, None)
            # At the twelfth place only what has no others in it can stand.
            self.assert_refused(parse_expression, " ".join([word] * 12 + ["@a"]), 11 * many)
        self.assert_refused(parse_expression, "not " * 11 + "days 1 ;", None)
        self.assert_refused(parse_expression, "not " * 11 + "set 1 in ; 0 ; 0 1 in ;", None)

    def test_so_many_tuples(self):
        def row(parts):
            return "least 1 " + " ".join(parts) + " ;"

        twelve = row(["@a"] * 12)
        # 1 + 4 * 13 + 7 tuples are 60.
        full = row([twelve] * 4 + ["@b"] * 7)
        self.assertEqual(len(format_expression(parse_expression(full)).split(" ")), len(full.split(" ")))
        words = full.split(" ")
        self.assert_refused(parse_expression, [*words[:-1], "@c", ";"], len(words) - 1)
        # A word that asks for more is refused for itself.
        words = row([twelve] * 4 + ["@b"] * 6).split(" ")[:-1]
        self.assert_refused(parse_expression, [*words, "@b", "@c"], len(words) + 1)
        self.assert_refused(parse_expression, [*words, "not"], len(words))
        words = row([twelve] * 4 + ["@b"] * 4).split(" ")[:-1]
        self.assert_refused(parse_expression, [*words, "or"], len(words) + 1)
        self.assert_refused(parse_expression, [*words, "or", "or"], len(words) + 1)
        self.assert_refused(parse_expression, [*words, "least", "2"], len(words) + 2)
        self.assert_refused(parse_expression, [*words, "least", "3"], len(words) + 1)
        self.assert_refused(parse_expression, [*words, "least", "2", "@a", "@a", "@a"], len(words) + 4)

    def test_where_no_right_text_goes_on(self):
        chance = chance_of(822)
        late = {}
        for _ in range(150):
            words = []
            weights = [chance.choice([1, 5]), chance.choice([1, 5]), 1, chance.choice([1, 6]), 6, chance.choice([0, 1])]
            for _ in range(150):
                more = chance.choices([["or"], ["not"], ["moved", "3"], ["least", str(chance.randint(1, 12))], ["@a"], [";"]], weights)[0]
                number = self.refused(parse_expression, [*words, *more])
                if number is None or number < len([*words, *more]):
                    # The number of a word that is not refused is that of the first one behind all.
                    end = len([*words, *more]) if number is None else number
                    self.assert_beginning([*words, *more][:end], True)
                    if number is None:
                        break
                    self.assert_beginning([*words, *more][:number + 1], False)
                    late[len(words) // 10] = late.get(len(words) // 10, 0) + 1
                else:
                    words.extend(more)
        self.assertGreater(min(late.get(tens, 0) for tens in range(7)), 20, late)

    def assert_beginning(self, words, yes):
        """Some words are, or are not, the beginning of an expression without a fault."""
        given = Given(words)
        try:
            fault = expression_fault(given.expression())
        except RecursionError:
            fault = 0
        right = fault is None and given.place == len(given.words)
        self.assertEqual(right, yes, words)


if __name__ == "__main__":
    unittest.main()
