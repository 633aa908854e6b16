"""Texts as rows of words, read word by word (points 76 and 77)."""

from everydue.checks import is_name
from everydue.errors import InvalidWord

_MOST_SIGNS = 60


def text_of(words):
    """Returns the text of a list of words."""
    return " ".join(words)


def is_digit_row(word):
    """Returns whether a word is nothing but digits, at least one."""
    return bool(word) and all(["0" <= sign <= "9" for sign in word])


def whole_of(word):
    """Returns the integer that a word tells, or None."""
    digits = word[1:] if word.startswith("-") else word
    if len(word) > _MOST_SIGNS or not is_digit_row(digits):
        return None
    # There is one word for each integer: no -0, and no 0 ahead of other digits.
    if digits.startswith("0") and word != "0":
        return None
    return int(word)


def is_within(number, low, high):
    """Returns whether what may be None is an integer from low to high, both counted; each of these may be None."""
    if number is None or low is not None and number < low:
        return False
    return high is None or number <= high


class Words:
    """The words of a text, taken one by one; a word that cannot stand in its place raises InvalidWord."""

    def __init__(self, text):
        self._words = text.split(" ")
        self._taken = 0

    def upcoming(self):
        """Returns the next word without taking it, or None if there is none."""
        return self._words[self._taken] if self._taken < len(self._words) else None

    def take(self):
        """Takes the next word and returns it."""
        if self._taken == len(self._words):
            raise InvalidWord(self._taken)
        self._taken += 1
        return self._words[self._taken - 1]

    def refuse(self):
        """Refuses the word that was taken last."""
        raise InvalidWord(self._taken - 1)

    def finish(self):
        """Refuses the next word if there is one."""
        if self._taken < len(self._words):
            raise InvalidWord(self._taken)

    def take_one(self, choices):
        """Takes a word that is one of some choices."""
        word = self.take()
        if word not in choices:
            self.refuse()
        return word

    def take_if(self, word):
        """Takes the next word if it is this one, and returns whether it is."""
        found = self.upcoming() == word
        if found:
            self.take()
        return found

    def take_whole(self, low, high):
        """Takes an integer from low to high, both counted; None is no bound."""
        number = whole_of(self.take())
        if not is_within(number, low, high):
            self.refuse()
        return number

    def take_whole_or(self, word, low, high):
        """Takes a word, for None, or else an integer from low to high."""
        return None if self.take_if(word) else self.take_whole(low, high)

    def take_pair(self, sign):
        """Takes a word of two integers with a sign between them, and returns them."""
        first, _, second = self.take().partition(sign)
        pair = (whole_of(first), whole_of(second))
        if pair[0] is None or pair[1] is None:
            self.refuse()
        return pair

    def take_name(self):
        """Takes a name."""
        word = self.take()
        if not is_name(word):
            self.refuse()
        return word

    def take_name_behind(self, names):
        """Takes a name that is greater than the last one of a list of names."""
        word = self.take_name()
        if names and word <= names[-1]:
            self.refuse()
        return word

    def has_number_ahead(self):
        """Returns whether the next word begins as integers do."""
        word = self.upcoming()
        return bool(word) and (word[0] == "-" or "0" <= word[0] <= "9")


def read_whole_text(text, read):
    """Returns what a function reads from the words of a text, which are to be all of it."""
    words = Words(text)
    value = read(words)
    words.finish()
    return value
