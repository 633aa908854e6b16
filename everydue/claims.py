"""Claims about all time, decided and judged (points 72, 73 and 75)."""

from everydue.checks import is_from_to, is_tuple, is_tuple_of, is_whole, is_whole_or_none
from everydue.errors import KindsDiffer
from everydue.expressions import expression_fault
from everydue.marks import marks_of
from everydue.papers import judge_paper, paper_of

GREATEST_DISTANCE = 1000

CLAIM_NAMES = ("in", "same", "apart", "gap", "many", "next")

_LENGTHS = {"in": 3, "same": 3, "apart": 4, "gap": 3, "many": 5, "next": 4}


def claim_fault(claim):
    """Returns None, or the word for what is wrong with a claim (interface)."""
    if not is_tuple(claim) or not claim or claim[0] not in CLAIM_NAMES or len(claim) != _LENGTHS[claim[0]]:
        return "form"
    if not all([expression_fault(expression) is None for expression in expressions_of(claim)]):
        return "expression"
    return None if _are_numbers(claim[0], numbers_of(claim)) else "number"


def _are_numbers(name, numbers):
    """Returns whether values are the numbers of a claim with a name."""
    if name in ("apart", "gap"):
        return is_from_to(numbers[0], 1, GREATEST_DISTANCE)
    if name == "next":
        return is_whole(numbers[0]) and is_whole_or_none(numbers[1])
    return all([is_whole(number) for number in numbers])


def many_expressions(name):
    """Returns how many expressions stand in a claim with a name."""
    return 2 if name in ("in", "same", "apart") else 1


def expressions_of(claim):
    """Returns the tuple of the expressions of a claim."""
    return claim[1:many_expressions(claim[0]) + 1]


def numbers_of(claim):
    """Returns the tuple of the numbers of a claim."""
    return claim[many_expressions(claim[0]) + 1:]


def decide(calendar, zones, answers, claim, near):
    """Returns whether a claim is true, with its papers, and what is against it if not (point 73).

    Raises NoPaper, KindsDiffer or TooLarge.
    """
    papers = tuple([paper_of(calendar, zones, answers, expression) for expression in expressions_of(claim)])
    if not _are_of_one_kind(papers):
        raise KindsDiffer("one expression tells days and another one moments")
    yes, against = _weighed(calendar, claim, papers, near)
    return ("true", papers) if yes else ("false", against, papers)


def _are_of_one_kind(papers):
    """Returns whether all of some papers begin with the same kind."""
    return papers[0][0][0] == papers[-1][0][0]


def _weighed(calendar, claim, papers, near):
    """Returns whether a claim is true of the first members of its papers, and what is against it if not.

    Raises TooLarge as decide does.
    """
    name = claim[0]
    marks = marks_of(calendar, papers[0][0][0])
    rows = [paper[0][1] for paper in papers]
    numbers = numbers_of(claim)
    if name == "many":
        true = marks.many_between(rows[0], numbers[0], numbers[1])
        return true == numbers[2], true
    if name == "next":
        true = marks.first_from(rows[0], numbers[0])
        return true == numbers[1], true
    if name == "apart":
        against = _near_pair(marks, rows[0], rows[1], numbers[0], near)
    elif name == "gap":
        against = _near_neighbours(marks, rows[0], numbers[0], near)
    elif name == "in":
        against = marks.nearest(marks.left_over(rows[0], rows[1]), near)
    else:
        against = marks.nearest(marks.in_one_alone(rows[0], rows[1]), near)
    return against is None, against


def _near_pair(marks, one, two, distance, near):
    """Returns the nearest integers of two sets that differ by less than a distance, or None."""
    found = marks.in_both(one, marks.near_to(two, distance - 1, distance - 1))
    first = marks.nearest(found, near)
    return None if first is None else (first, marks.nearest(two, first))


def _near_neighbours(marks, row, distance, near):
    """Returns the nearest neighbours of a set that differ by less than a distance, or None."""
    if distance == 1:
        return None
    ahead = marks.shifted(marks.near_to(row, distance - 2, 0), -1)
    first = marks.nearest(marks.in_both(row, ahead), near)
    return None if first is None else (first, marks.first_from(row, first + 1))


def judge_claim(calendar, zones, answers, claim, papers):
    """Returns whether papers of a claim are right, and the claim is true (point 75); raises TooLarge."""
    if not _are_right(calendar, zones, answers, claim, papers):
        return False
    yes, _ = _weighed(calendar, claim, papers, 0)
    return yes


def judge_against(calendar, zones, answers, claim, against, papers):
    """Returns whether papers of a claim are right, and a thing speaks against the claim (point 75)."""
    if not _are_right(calendar, zones, answers, claim, papers):
        return False
    return _speaks_against(calendar, claim, papers, against)


def _are_right(calendar, zones, answers, claim, papers):
    """Returns whether papers are right at all places, as many as a claim has expressions, and of one kind."""
    expressions = expressions_of(claim)
    if len(papers) != len(expressions):
        return False
    for expression, paper in zip(expressions, papers):
        if judge_paper(calendar, zones, answers, expression, paper) is not None:
            return False
    return _are_of_one_kind(papers)


def _speaks_against(calendar, claim, papers, against):
    """Returns whether a thing speaks against a claim, by the first members of its papers."""
    name = claim[0]
    marks = marks_of(calendar, papers[0][0][0])
    rows = [paper[0][1] for paper in papers]
    if name in ("many", "next"):
        yes, true = _weighed(calendar, claim, papers, 0)
        return not yes and is_whole_or_none(against) and against == true
    if name in ("apart", "gap"):
        if not is_tuple_of(against, 2) or not all([is_whole(mark) for mark in against]):
            return False
        one, two = against
        apart = abs(one - two)
        least = 0 if name == "apart" else 1
        return least <= apart < claim[-1] and marks.is_among(rows[0], one) and marks.is_among(rows[-1], two)
    if not is_whole(against):
        return False
    held = [marks.is_among(row, against) for row in rows]
    return held[0] != held[1] if name == "same" else held[0] and not held[1]
