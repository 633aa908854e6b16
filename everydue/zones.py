"""Zones, and local times (points 33 to 39)."""

from everydue.calendars import cycle_of
from everydue.checks import is_from_to, is_tuple, is_tuple_of, is_whole
from everydue.dayparts import any_of, daysets_of, merged, minutes_of, normal_pairs, parts_of, refuse_many_pairs
from everydue.daysets import EMPTY, normal
from everydue.joins import IN_BOTH, combined, moved, other, refuse_too_large
from everydue.minutes import NEVER
from everydue.offsets import MOST_TURNS, OffsetTable
from everydue.turns import great_turns, last_turn, next_turn

UTC = (0, (), None)

GREATEST_OFFSET = 2000
MOST_MOVES = 60
MOST_ROWS = 4


def zone_word(calendar, zone):
    """Returns None if a zone fits a calendar, or the word for what is wrong with it (point 35)."""
    if not has_zone_form(zone):
        return "form"
    offset, moves, turns = zone
    rows = () if turns is None else turns[1]
    minutes = calendar[6]
    offsets = [offset, *[move[1] for move in moves], *[row[4] for row in rows]]
    if max([abs(one) for one in offsets]) > minutes:
        return "offset"
    if any([row[3] >= minutes for row in rows]):
        return "minute"
    turned = [] if turns is None else great_turns(calendar, turns, MOST_TURNS)
    if len(turned) > MOST_TURNS:
        return "many"
    if moves and turned and turned[0][0] <= moves[-1][0]:
        return "order"
    again = [(moment + cycle_of(calendar)[1] * minutes, one) for moment, one in turned[:1]]
    return "near" if _are_near(minutes, offset, [*moves, *turned, *again]) else None


def has_zone_form(value):
    """Returns whether a value has the form of a zone (point 34)."""
    if not is_tuple_of(value, 3):
        return False
    offset, moves, turns = value
    if not _is_offset(offset) or not is_tuple(moves) or len(moves) > MOST_MOVES:
        return False
    if not all([is_tuple_of(move, 2) and is_whole(move[0]) and _is_offset(move[1]) for move in moves]):
        return False
    if not all([one[0] < two[0] for one, two in zip(moves, moves[1:])]):
        return False
    return turns is None or is_tuple_of(turns, 2) and is_whole(turns[0]) and _are_rows(turns[1])


def _are_rows(value):
    """Returns whether a value is the rows of the turns of a zone."""
    if not is_tuple(value) or not 1 <= len(value) <= MOST_ROWS:
        return False
    return all([_is_row(row) for row in value])


def _is_row(value):
    """Returns whether a value is a row of the turns of a zone."""
    if not is_tuple_of(value, 5):
        return False
    month, place, weekday, minute, offset = value
    if not is_whole(month) or month < 1 or not is_whole(place) or place == 0:
        return False
    if weekday is not None and (not is_whole(weekday) or weekday < 0):
        return False
    return is_whole(minute) and minute >= 0 and _is_offset(offset)


def _is_offset(value):
    """Returns whether a value is an offset."""
    return is_from_to(value, -GREATEST_OFFSET, GREATEST_OFFSET)


def _are_near(minutes, offset, moves):
    """Returns whether two neighbours of some moves are too near, or their offsets too far from one another."""
    ahead = None
    for moment, behind in moves:
        if ahead is not None and moment - ahead < 2 * minutes or abs(behind - offset) > minutes:
            return True
        ahead, offset = moment, behind
    return False


def offset_at(calendar, zone, moment):
    """Returns the offset of a zone at a moment (point 35)."""
    offset, moves, turns = zone
    turn = None if turns is None else last_turn(calendar, turns, moment)
    if turn is not None:
        return turn[1]
    for move in moves:
        if move[0] <= moment:
            offset = move[1]
    return offset


def next_move(calendar, zone, moment):
    """Returns the first move of a zone behind a moment, a pair, or None (point 35)."""
    _, moves, turns = zone
    for move in moves:
        if move[0] > moment:
            return move
    return None if turns is None else next_turn(calendar, turns, moment)


def local_of(calendar, zone, moment):
    """Returns the local time of a moment (point 36)."""
    return moment + offset_at(calendar, zone, moment)


def moments_of(calendar, zone, local, way):
    """Returns an ascending list of the moments that a way gives for a local time (points 36 and 38)."""
    minutes = calendar[6]
    # All offsets are at most a day's minutes: no move that matters for this local time lies further away.
    begin, offset = local - minutes, offset_at(calendar, zone, local - minutes)
    answers = []
    while begin <= local + minutes:
        move = next_move(calendar, zone, begin)
        moment = local - offset
        if begin <= moment and (move is None or moment < move[0]):
            answers.append(moment)
        if move is None:
            break
        begin, offset = move
    if way == "both":
        return answers
    if answers:
        return answers[:1] if way in ("first", "later") else answers[-1:]
    if way in ("first", "last"):
        return []
    ahead = offset_at(calendar, zone, local - minutes)
    behind = offset_at(calendar, zone, local + minutes)
    return [local - ahead] if way == "later" else [local - behind]


def offset_days(calendar, zone, minute):
    """Returns a list of pairs of an offset and the dayset of the days at whose minute it is the offset (interface)."""
    return list(OffsetTable(calendar, zone).rows_at(minute))


def days_at(calendar, dayset, minute, zone, way):
    """Returns the minuteset of the moments that a way gives for a local minute of the days of a dayset (point 39)."""
    row = normal(dayset)
    table = OffsetTable(calendar, zone)
    refuse_too_large([row, *[days for _, days in table.rows_at(0)]])
    if minute >= calendar[6]:
        return NEVER
    points, unanswered = _answers(calendar, row, minute, table, way)
    if way in ("later", "earlier"):
        step = 1 if way == "later" else -1
        # A day ahead of a local time that is left out, the offset is the one ahead of the move that leaves it out,
        # and a day behind it the one from the move on: no other move is so near.
        for offset, days in table.rows_at(minute):
            found = combined([unanswered, moved(days, step)], IN_BOTH)
            points.append(_point(calendar, found, minute - offset))
    told = _points_joined(calendar, points)
    refuse_many_pairs(told)
    return told


def _answers(calendar, row, minute, table, way):
    """Returns points, as _points_joined takes them, for the answers that a way takes, and the days without an answer.

    For later and earlier these points are those of first and last.
    """
    points = []
    unanswered = row
    # The greater the offset, the earlier the answer.
    offsets = table.offsets if way in ("last", "earlier") else table.offsets[::-1]
    for offset in offsets:
        days, late = divmod(minute - offset, calendar[6])
        felt = moved(table.days_with(offset, late), -days)
        found = combined([row if way == "both" else unanswered, felt], IN_BOTH)
        points.append(_point(calendar, found, minute - offset))
        unanswered = combined([unanswered, other(felt)], IN_BOTH)
    return points, unanswered


def _point(calendar, row, minute):
    """Returns a point, as _points_joined takes it: what lies so many minutes behind the beginnings of some days."""
    days, late = divmod(minute, calendar[6])
    return late, moved(row, days)


def _points_joined(calendar, points):
    """Returns the normal minuteset of points: pairs of a minute and the dayset of the days at whose minute it holds."""
    lying = {}
    for minute, row in points:
        lying.setdefault(minute, []).append(row)
    pairs = [(0, EMPTY)]
    for minute in sorted(lying):
        if pairs[-1][0] == minute:
            pairs.pop()
        pairs.append((minute, any_of(lying[minute])))
        if minute + 1 < calendar[6]:
            pairs.append((minute + 1, EMPTY))
    return merged(pairs)


def local_days(calendar, minuteset, zone):
    """Returns the dayset of the local days of the moments of a minuteset (point 37)."""
    rows = normal_pairs(minuteset)
    table = OffsetTable(calendar, zone)
    refuse_too_large([*daysets_of([rows]), *[days for _, days in table.rows_at(0)]])
    minutes = calendar[6]
    marks = sorted(set([*minutes_of([rows]), *table.marks, *[-offset % minutes for offset in table.offsets]]))
    found = {}
    for begin, end, dayset in parts_of(calendar, rows):
        for minute in [mark for mark in marks if begin <= mark < end and dayset != EMPTY]:
            for offset, days in table.rows_at(minute):
                late = (minute + offset) // minutes
                key = (begin, table.mark_of(minute), offset, late)
                if key not in found:
                    found[key] = moved(combined([dayset, days], IN_BOTH), late)
    return any_of(list(found.values()))
