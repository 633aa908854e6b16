"""The words of rules and of zones, and what is read from them (points 78 and 81)."""

from everydue.checks import MOST_PLACES, UNITS, is_place, is_tuple
from everydue.rules import GREATEST_INTERVAL, GREATEST_NUMBER, LIST_NAMES, MOST_MEMBERS, is_member
from everydue.zones import GREATEST_OFFSET, MOST_MOVES, MOST_ROWS


def rule_words(rule):
    """Returns the list of the words of a rule."""
    unit, interval, anchor, lists, places, since, until, number = rule
    words = ["rule", unit, str(interval), str(anchor)]
    for name, members in lists:
        words.append(name.replace(" ", "-"))
        words.extend([_member_word(member) for member in members])
    if places:
        words.extend(["places", *[str(place) for place in places]])
    for word, value in (("since", since), ("until", until), ("number", number)):
        if value is not None:
            words.extend([word, str(value)])
    return [*words, ";"]


def _member_word(member):
    """Returns the word of a member of a list."""
    return f"{member[0]}/{member[1]}" if is_tuple(member) else str(member)


def read_rule(words):
    """Reads a rule, without the word ahead of it."""
    unit = words.take_one(UNITS)
    interval = words.take_whole(1, GREATEST_INTERVAL)
    anchor = words.take_whole(None, None)
    lists = []
    for name in LIST_NAMES:
        if words.take_if(name.replace(" ", "-")):
            lists.append((name, _read_members(words, name)))
    places = ()
    if words.take_if("places"):
        places = (_read_place(words, ()),)
        while words.has_number_ahead():
            places = (*places, _read_place(words, places))
    since = words.take_whole(None, None) if words.take_if("since") else None
    until = words.take_whole(None, None) if words.take_if("until") else None
    # A number without since would be a fault.
    numbered = since is not None and words.take_if("number")
    number = words.take_whole(1, GREATEST_NUMBER) if numbered else None
    words.take_one((";",))
    return (unit, interval, anchor, tuple(lists), places, since, until, number)


def _read_members(words, name):
    """Reads the members of the list with a name, at least one."""
    members = [_read_member(words, name, [])]
    while words.has_number_ahead():
        members.append(_read_member(words, name, members))
    return tuple(members)


def _read_member(words, name, members):
    """Reads a member of the list with a name, behind others."""
    if name in ("month weekdays", "year weekdays"):
        member = words.take_pair("/")
    else:
        member = words.take_whole(None, None)
    if len(members) == MOST_MEMBERS or member in members or not is_member(name, member):
        words.refuse()
    return member


def read_places(words):
    """Reads places, perhaps none, and the word behind them."""
    places = ()
    while not words.take_if(";"):
        places = (*places, _read_place(words, places))
    return places


def _read_place(words, places):
    """Reads a place behind others."""
    place = words.take_whole(None, None)
    if len(places) == MOST_PLACES or place in places or not is_place(place):
        words.refuse()
    return place


def zone_words(zone):
    """Returns the list of the words of a zone."""
    offset, moves, turns = zone
    words = ["zone", str(offset)]
    for moment, other in moves:
        words.extend(["move", str(moment), str(other)])
    if turns is not None:
        words.extend(["from", str(turns[0])])
        for month, place, weekday, minute, other in turns[1]:
            day = "any" if weekday is None else str(weekday)
            words.extend(["turn", str(month), str(place), day, str(minute), str(other)])
    return [*words, ";"]


def read_zone(words):
    """Reads a zone."""
    words.take_one(("zone",))
    offset = _read_offset(words)
    moves = []
    while len(moves) < MOST_MOVES and words.take_if("move"):
        moment = words.take_whole(moves[-1][0] + 1 if moves else None, None)
        moves.append((moment, _read_offset(words)))
    turns = None
    if words.take_if("from"):
        turns = (words.take_whole(None, None), _read_rows(words))
    words.take_one((";",))
    return (offset, tuple(moves), turns)


def _read_offset(words):
    """Reads an offset."""
    return words.take_whole(-GREATEST_OFFSET, GREATEST_OFFSET)


def _read_rows(words):
    """Reads the rows of turns, at least one."""
    words.take_one(("turn",))
    rows = [_read_row(words)]
    while len(rows) < MOST_ROWS and words.take_if("turn"):
        rows.append(_read_row(words))
    return tuple(rows)


def _read_row(words):
    """Reads a row of turns behind its first word."""
    month = words.take_whole(1, None)
    place = words.take_whole(None, None)
    if place == 0:
        words.refuse()
    weekday = words.take_whole_or("any", 0, None)
    minute = words.take_whole(0, None)
    return (month, place, weekday, minute, _read_offset(words))
