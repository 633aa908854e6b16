"""The offsets of a zone in a calendar, and the days on which they are felt (points 35 and 37)."""

from everydue.calendars import cycle_of
from everydue.daysets import ALL, EMPTY, normal, pure
from everydue.joins import moved
from everydue.sides import count_below, side_of_runs, touching_joined
from everydue.turns import great_turns

MOST_TURNS = 20000


class OffsetTable:
    """The days on which each offset of a zone is felt, minute by minute of the day."""

    def __init__(self, calendar, zone):
        self.offset, self.moves, turns = zone
        self.minutes = calendar[6]
        self.cycle = cycle_of(calendar)[1]
        self.turns = [] if turns is None else great_turns(calendar, turns, MOST_TURNS)
        moves = [*self.moves, *self.turns]
        # Between two of these minutes the days on which an offset is felt are the same.
        self.marks = sorted(set([moment % self.minutes for moment, _ in moves]))
        self.offsets = sorted(set([self.offset, *[offset for _, offset in moves]]))
        self.known = {}

    def mark_of(self, minute):
        """Returns a number that is the same for minutes at which the same offsets are felt on the same days."""
        return count_below(self.marks, minute + 1)

    def rows_at(self, minute):
        """Returns a list of pairs of an offset and the dayset of the days at whose minute it is the offset."""
        mark = self.mark_of(minute)
        if mark not in self.known:
            moves = [self._felt(move, minute) for move in self.moves]
            turns = [self._felt(turn, minute) for turn in self.turns]
            rows = [(offset, self._days_with(offset, moves, turns)) for offset in self.offsets]
            self.known[mark] = [row for row in rows if row[1] != EMPTY]
        return self.known[mark]

    def days_with(self, offset, minute):
        """Returns the dayset of the days at whose minute this is the offset."""
        found = [days for one, days in self.rows_at(minute) if one == offset]
        return found[0] if found else EMPTY

    def _felt(self, move, minute):
        """Returns a pair of the first day at whose minute a move is felt, and its offset."""
        return -((minute - move[0]) // self.minutes), move[1]

    def _days_with(self, offset, moves, turns):
        """Returns the dayset of the days with an offset, for moves and turns that are felt from some days on."""
        nothing, each = EMPTY[0], ALL[0]
        left = each if self.offset == offset else nothing
        days = [day for day, _ in [*moves, *turns[:1]]]
        if not days:
            return normal(pure(left))
        runs = [(begin, end) for (begin, one), end in zip(moves, days[1:]) if one == offset]
        if turns:
            right = self._side_with(offset, turns)
        else:
            right = each if moves[-1][1] == offset else nothing
        return normal((left, days[0], tuple(touching_joined(runs)), days[-1], right))

    def _side_with(self, offset, turns):
        """Returns the side of the days with an offset in all great cycles, told by the turns of one of them."""
        first = turns[0][0]
        ends = [*[day - first for day, _ in turns[1:]], self.cycle]
        runs = [(day - first, end) for (day, one), end in zip(turns, ends) if one == offset]
        return moved(pure(side_of_runs(self.cycle, touching_joined(runs))), first)[4]
