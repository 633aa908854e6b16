"""Texts of expressions (points 76, 77, 82 and 83)."""

from everydue.checks import UNITS, is_name
from everydue.expressions import MOST_IN_ONE_ANOTHER, MOST_TUPLES
from everydue.forms import GREATEST_MINUTE, GREATEST_STEP, MOST_DAYS, MOST_PARTS, WAYS
from everydue.ruletexts import read_places, read_rule, rule_words
from everydue.settexts import dayset_words, read_dayset
from everydue.words import read_whole_text, text_of

# For each name of tuples in which others stand: how many of these there are, at least.
_PARTS = {
    "or": 2,
    "and": 2,
    "without": 2,
    "on": 2,
    "back": 2,
    "near": 2,
    "not": 1,
    "least": 1,
    "moved": 1,
    "between": 1,
    "place": 1,
    "every": 1,
    "at": 1,
    "local days": 1,
    "wide": 1,
    "room": 1,
}


def format_expression(expression):
    """Returns the text of an expression (point 82)."""
    return text_of(expression_words(expression))


def parse_expression(text):
    """Returns the expression that a text tells; raises InvalidWord."""
    return read_whole_text(text, read_expression)


def expression_words(expression):
    """Returns the list of the words of an expression."""
    name = expression[0]
    if name == "rule":
        return rule_words(expression[1])
    if name == "set":
        return ["set", *dayset_words(expression[1])]
    if name == "days":
        return ["days", *[str(day) for day in expression[1]], ";"]
    if name == "name":
        return ["@" + expression[1]]
    if name == "least":
        parts = [word for part in expression[2] for word in expression_words(part)]
        return ["least", str(expression[1]), *parts, ";"]
    if _PARTS[name] == 2:
        return [name, *expression_words(expression[1]), *expression_words(expression[2])]
    return [name.replace(" ", "-"), *_value_words(expression), *expression_words(expression[1])]


def _value_words(expression):
    """Returns the list of the words of what stands beside the one part of a tuple."""
    if expression[0] == "place":
        return [expression[2], *[str(place) for place in expression[3]], ";"]
    return [_value_word(value) for value in expression[2:]]


def _value_word(value):
    """Returns the word of a name, an integer or None."""
    return "none" if value is None else str(value)


class Growth:
    """How many tuples an expression has at least that begins with the words that were taken."""

    def __init__(self, words):
        self._words = words
        self._least = 1

    def grow(self, many):
        """Counts more tuples; refuses the last word if there are too many now."""
        self._least += many
        if self._least > MOST_TUPLES:
            self._words.refuse()


def read_expression(words):
    """Reads an expression."""
    return _read(words, Growth(words), 1, 0)


def _read(words, growth, depth, more):
    """Reads an expression in which so many tuples stand in one another, this one counted.

    more is 1 if the tuples that were counted so far do not need it, and 0 if it is one of them.
    """
    word = words.take()
    growth.grow(more)
    if word == "rule":
        return ("rule", read_rule(words))
    if word == "set":
        return ("set", read_dayset(words))
    if word == "days":
        return ("days", _read_days(words))
    if word.startswith("@") and is_name(word[1:]):
        return ("name", word[1:])
    name = "local days" if word == "local-days" else word
    if name not in _PARTS or depth == MOST_IN_ONE_ANOTHER:
        words.refuse()
    growth.grow(_PARTS[name])
    if name == "least":
        return _read_least(words, growth, depth)
    values = _read_values(words, name)
    parts = [_read(words, growth, depth + 1, 0) for _ in range(_PARTS[name])]
    return (name, *parts, *values)


def _read_days(words):
    """Reads ascending days and the word behind them."""
    days = []
    while len(days) < MOST_DAYS and words.upcoming() != ";":
        days.append(words.take_whole(days[-1] + 1 if days else None, None))
    words.take_one((";",))
    return tuple(days)


def _read_least(words, growth, depth):
    """Reads what stands behind the first word of a tuple with a row of expressions."""
    number = words.take_whole(1, MOST_PARTS)
    growth.grow(number - 1)
    parts = [_read(words, growth, depth + 1, 0) for _ in range(number)]
    while len(parts) < MOST_PARTS and words.upcoming() != ";":
        parts.append(_read(words, growth, depth + 1, 1))
    words.take_one((";",))
    return ("least", number, tuple(parts))


def _read_values(words, name):
    """Reads what stands ahead of the parts of a tuple; returns it as a list."""
    if name == "moved":
        return [words.take_whole(None, None)]
    if name == "between":
        return [words.take_whole_or("none", None, None), words.take_whole_or("none", None, None)]
    if name == "place":
        return [words.take_one(UNITS), read_places(words)]
    if name == "every":
        begin = words.take_whole(None, None)
        step = words.take_whole(1, GREATEST_STEP)
        return [begin, step, words.take_whole(0, step - 1)]
    if name == "at":
        return [words.take_whole(0, GREATEST_MINUTE), words.take_name(), words.take_one(WAYS)]
    if name == "local days":
        return [words.take_name()]
    if name == "wide":
        return [words.take_whole(0, None), words.take_whole(0, None)]
    if name == "room":
        return [words.take_whole(1, None)]
    return []
