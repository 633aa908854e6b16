"""What all texts have in common, to be tried with each kind of them."""

import random
import unittest

from everydue.errors import InvalidWord
from tests.plain_texts import BIG, NOWHERE, SOMEWHERE


class TextCase(unittest.TestCase):

    def refused(self, parse, words):
        """The number of the word that is refused, or None if the text is right."""
        try:
            parse(" ".join(words) if isinstance(words, list) else words)
        except InvalidWord as error:
            self.assertIs(type(error.number), int)
            return error.number
        return None

    def assert_refused(self, parse, text, number):
        self.assertEqual(self.refused(parse, text), number, text)

    def try_text(self, parse, form, value):
        """A value is written and read again; each beginning of its text is refused at its end."""
        text = form(value)
        words = text.split(" ")
        again = parse(text)
        self.assertEqual(again, value)
        self.assertEqual(repr(again), repr(value))
        self.assertEqual(form(again), text)
        for many in range(1, len(words)):
            self.assert_refused(parse, " ".join(words[:many]), many)
        self.assert_refused(parse, text + " ;", len(words))
        self.assert_refused(parse, text + " ", len(words))
        self.assert_refused(parse, " " + text, 0)
        return words

    def try_odd_words(self, parse, words, chance):
        """At each place a word that stands nowhere is refused, and so is an empty one."""
        for place in range(len(words)):
            for word in {"", chance.choice(NOWHERE), chance.choice(NOWHERE)} - {"1 ", "local days"}:
                self.assert_refused(parse, [*words[:place], word, *words[place + 1:]], place)

    def try_other_words(self, parse, words, chance, tries=6):
        """Where another word stands and is taken, the text can be ended in some way."""
        for _ in range(tries):
            place = chance.randrange(len(words))
            text = [*words[:place], chance.choice(SOMEWHERE), *words[place + 1:]]
            number = self.refused(parse, text)
            if number is not None:
                self.assertGreaterEqual(number, place, text)
                self.assert_goes_on(parse, text[:number])

    def assert_goes_on(self, parse, words):
        """Some words make the beginning of a text a right one."""
        words = list(words)
        for _ in range(400):
            number = self.refused(parse, words) if words else 0
            if number is None:
                return
            self.assertEqual(number, len(words), words)
            # The first choices are those with which texts come to an end.
            found = self.integers(words)
            greater = [str(found[-1] + 1), str(max(found)), str(max(found) + 1)] if found else []
            for word in (";", "@a", "0", "1", "out", "a", *SOMEWHERE, *greater):
                if self.refused(parse, [*words, word]) in (None, len(words) + 1):
                    words.append(word)
                    break
            else:
                # Where integers ascend, none may be left behind the last one: that is no matter (point 77).
                self.assertEqual(max(found), BIG, words)
                return
        self.fail(f"{words[-20:]} is too long")

    def integers(self, words):
        """The integers in some words."""
        parts = [part for word in words for part in word.replace("..", " ").split(" ")]
        return [int(part) for part in parts if part.lstrip("-").isdigit()]


def chance_of(number):
    return random.Random(number)
