"""The words of claims and of papers, and what is read from them (points 87 and 88)."""

from everydue.claims import CLAIM_NAMES, GREATEST_DISTANCE, expressions_of, many_expressions, numbers_of
from everydue.exprtexts import expression_words, read_expression
from everydue.kinds import DAYS, SETS
from everydue.settexts import dayset_words, minuteset_words, read_dayset, read_minuteset


def claim_words(claim):
    """Returns the list of the words of a claim."""
    parts = [word for expression in expressions_of(claim) for word in expression_words(expression)]
    numbers = ["none" if number is None else str(number) for number in numbers_of(claim)]
    return ["claim", claim[0], *parts, *numbers]


def read_claim(words):
    """Reads a claim."""
    words.take_one(("claim",))
    name = words.take_one(CLAIM_NAMES)
    parts = [read_expression(words) for _ in range(many_expressions(name))]
    return (name, *parts, *_read_numbers(words, name))


def _read_numbers(words, name):
    """Reads the numbers of a claim with a name; returns them as a list."""
    if name in ("apart", "gap"):
        return [words.take_whole(1, GREATEST_DISTANCE)]
    if name == "many":
        return [words.take_whole(None, None) for _ in range(3)]
    if name == "next":
        return [words.take_whole(None, None), words.take_whole_or("none", None, None)]
    return []


def paper_words(paper):
    """Returns the list of the words of a paper."""
    words = ["paper"]
    for kind, told in paper:
        words.append(kind)
        words.extend(dayset_words(told) if kind == DAYS else minuteset_words(told))
    return [*words, ";"]


def read_paper(words):
    """Reads a paper."""
    words.take_one(("paper",))
    members = []
    while not words.take_if(";"):
        kind = words.take_one(SETS)
        members.append((kind, read_dayset(words) if kind == DAYS else read_minuteset(words)))
    return tuple(members)
