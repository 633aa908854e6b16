"""The same questions to days and to moments: those that claims need (points 72 and 73)."""

from everydue.daysets import holds
from everydue.joins import IN_ONE, join_two, meet, moved, without
from everydue.dayparts import join_minutes
from everydue.kinds import DAYS
from everydue.minutes import moment_count, moment_holds, moment_nearest, moment_next, moments_meet, moments_moved
from everydue.minutes import moments_without, widened
from everydue.papers import near_days
from everydue.questions import count_in, nearest_in, next_in


class DayMarks:
    """Questions to daysets."""

    def left_over(self, one, two):
        """Returns what is in one and not in two; raises TooLarge."""
        return without(one, two)

    def in_one_alone(self, one, two):
        """Returns what is in just one of two sets; raises TooLarge."""
        return join_two(one, two, IN_ONE)

    def in_both(self, one, two):
        """Returns what is in both of two sets; raises TooLarge."""
        return meet(one, two)

    def near_to(self, row, back, on):
        """Returns the integers with one of a set from on ahead to back behind; raises TooLarge."""
        return near_days(row, back, on)

    def shifted(self, row, by):
        """Returns a set moved by an integer."""
        return moved(row, by)

    def is_among(self, row, mark):
        """Returns whether an integer is in a set."""
        return holds(row, mark)

    def nearest(self, row, mark):
        """Returns the integer of a set that is nearest to another one, the greater one of two, or None."""
        return nearest_in(row, mark)

    def first_from(self, row, mark):
        """Returns the least integer of a set from another one on, or None."""
        return next_in(row, mark)

    def many_between(self, row, first, end):
        """Returns how many integers of a set lie from first to end - 1."""
        return count_in(row, first, end)


class MomentMarks:
    """Questions to minutesets."""

    def __init__(self, calendar):
        self._calendar = calendar

    def left_over(self, one, two):
        """Returns what is in one and not in two; raises TooLarge."""
        return moments_without(self._calendar, one, two)

    def in_one_alone(self, one, two):
        """Returns what is in just one of two sets; raises TooLarge."""
        return join_minutes([one, two], IN_ONE)

    def in_both(self, one, two):
        """Returns what is in both of two sets; raises TooLarge."""
        return moments_meet(self._calendar, one, two)

    def near_to(self, row, back, on):
        """Returns the integers with one of a set from on ahead to back behind; raises TooLarge."""
        return widened(self._calendar, row, back, on)

    def shifted(self, row, by):
        """Returns a set moved by an integer."""
        return moments_moved(self._calendar, row, by)

    def is_among(self, row, mark):
        """Returns whether an integer is in a set."""
        return moment_holds(self._calendar, row, mark)

    def nearest(self, row, mark):
        """Returns the integer of a set that is nearest to another one, the greater one of two, or None."""
        return moment_nearest(self._calendar, row, mark)

    def first_from(self, row, mark):
        """Returns the least integer of a set from another one on, or None."""
        return moment_next(self._calendar, row, mark)

    def many_between(self, row, first, end):
        """Returns how many integers of a set lie from first to end - 1."""
        return moment_count(self._calendar, row, first, end)


def marks_of(calendar, kind):
    """Returns what answers questions to sets of days, or of moments."""
    return DayMarks() if kind == DAYS else MomentMarks(calendar)
