"""Books: a calendar, zones, entries, and the answers of the entries (points 51 to 58)."""

from everydue.calendars import calendar_fault
from everydue.checks import is_name
from everydue.errors import InvalidCalendar, InvalidExpression, InvalidName, InvalidZone, NoShift, UnknownName
from everydue.expressions import expression_fault, names_in, told, unheld
from everydue.joins import without
from everydue.kinds import DAYS, SETS
from everydue.links import circles_in, held_links, in_order, order_behind, reached_from, turned_links
from everydue.minutes import moments_without
from everydue.zones import zone_word


class Book:
    """A calendar, zones under names, entries under names, and the answers of all entries."""

    def __init__(self, calendar):
        _refuse_calendar(calendar)
        self._calendar = calendar
        self._zones = {}
        self._fitting = {}
        self._entries = {}
        # For each entry what _spoken_of tells of it; and, for each entry, those of which it speaks and that are held.
        self._spoken = {}
        self._links = {}
        self._circles = {}
        self._answers = {}
        self._before = {}
        self._made = 0
        self._reformed = False

    def put(self, name, expression):
        """Lays an expression under a name; raises InvalidName or InvalidExpression."""
        _refuse_name(name)
        place = expression_fault(expression)
        if place is not None:
            raise InvalidExpression(place)
        new = name not in self._entries
        self._entries[name] = expression
        self._spoken[name] = names_in(expression)
        self._begin(False)
        self._renew({name: True}, {("entry", name): True} if new else {})

    def drop(self, name):
        """Takes the entry with a name away; raises InvalidName."""
        _refuse_name(name)
        self._begin(False)
        gone = {}
        if name in self._entries:
            del self._entries[name]
            del self._spoken[name]
            gone[("entry", name)] = True
        self._renew({}, gone)

    def put_zone(self, name, zone):
        """Lays a zone under a name; raises InvalidName or InvalidZone."""
        _refuse_name(name)
        word = zone_word(self._calendar, zone)
        if word == "form":
            raise InvalidZone("the value has not the form of a zone")
        self._zones[name] = zone
        self._fitting[name] = word is None
        self._begin(False)
        self._renew({}, {("zone", name): True})

    def drop_zone(self, name):
        """Takes the zone with a name away; raises InvalidName."""
        _refuse_name(name)
        self._begin(False)
        gone = {}
        if name in self._zones:
            del self._zones[name]
            del self._fitting[name]
            gone[("zone", name)] = True
        self._renew({}, gone)

    def reform(self, calendar):
        """Lays another calendar down; raises InvalidCalendar."""
        _refuse_calendar(calendar)
        self._calendar = calendar
        self._fitting = {name: zone_word(calendar, zone) is None for name, zone in self._zones.items()}
        self._begin(True)
        self._renew({name: True for name in self._entries}, {})

    def calendar(self):
        """Returns the calendar."""
        return self._calendar

    def names(self):
        """Returns the ascending list of the names of all entries."""
        return sorted(self._entries)

    def zones(self):
        """Returns the ascending list of the names of all zones."""
        return sorted(self._zones)

    def expression(self, name):
        """Returns the expression under a name, or None."""
        return self._entries.get(name)

    def zone(self, name):
        """Returns the zone under a name, or None."""
        return self._zones.get(name)

    def answer(self, name):
        """Returns the answer of the entry with a name; raises UnknownName."""
        if name not in self._answers:
            raise UnknownName(name)
        return self._answers[name]

    def made(self):
        """Returns how many entries the last deed made anew (point 54)."""
        return self._made

    def changed(self):
        """Returns a list of tuples (name, old, new) of what the last deed changed (point 55)."""
        found = []
        for name in sorted(set([*self._before, *self._answers])):
            old, new = self._before.get(name), self._answers.get(name)
            if old != new:
                found.append((name, old, new))
        return found

    def shift(self, name):
        """Returns what went from an entry with the last deed, and what came (point 56); raises NoShift or TooLarge."""
        old, new = self._before.get(name), self._answers.get(name)
        if old is None or new is None or old[0] != new[0] or old[0] not in SETS:
            raise NoShift("the entry has no two answers of one kind")
        if old[0] == DAYS:
            return without(old[1], new[1]), without(new[1], old[1])
        if self._reformed:
            raise NoShift("the days have other minutes than before")
        gone = moments_without(self._calendar, old[1], new[1])
        return gone, moments_without(self._calendar, new[1], old[1])

    def rows(self):
        """Returns a list of the names of all entries, each behind those of which it speaks (point 57)."""
        return in_order(self._links)

    def behind(self, name):
        """Returns the ascending list of the names of the entries that speak of one at last; raises UnknownName."""
        if name not in self._entries:
            raise UnknownName(name)
        return sorted(reached_from(turned_links(self._links), name))

    def become(self, calendar, zones, entries):
        """Lays a calendar, zones and entries down, all without a fault, in the place of all that the book holds.

        The answers of what stays as it was are kept. The book is then as if there was no deed yet.
        """
        laid = {name: True for name in entries if self._entries.get(name) != entries[name]}
        if calendar != self._calendar:
            laid = {name: True for name in entries}
        touched = {("zone", name): True for name in [*self._zones, *zones] if self._zones.get(name) != zones.get(name)}
        for name in [*self._entries, *entries]:
            if name not in self._entries or name not in entries:
                touched[("entry", name)] = True
        fitting = {}
        for name, zone in zones.items():
            stays = calendar == self._calendar and name in self._zones and ("zone", name) not in touched
            fitting[name] = self._fitting[name] if stays else zone_word(calendar, zone) is None
        self._calendar, self._zones, self._fitting, self._entries = calendar, dict(zones), fitting, dict(entries)
        self._spoken = {name: names_in(expression) for name, expression in entries.items()}
        self._begin(False)
        self._renew(laid, touched)
        self._before = dict(self._answers)
        self._made = 0

    def twin(self):
        """Returns another book that holds the same and tells the same of the last deed."""
        book = Book(self._calendar)
        # Deeds change these four; all the others they put something new in the place of.
        book._zones = dict(self._zones)
        book._fitting = dict(self._fitting)
        book._entries = dict(self._entries)
        book._spoken = dict(self._spoken)
        book._links = self._links
        book._circles = self._circles
        book._answers = self._answers
        book._before = self._before
        book._made = self._made
        book._reformed = self._reformed
        return book

    def _begin(self, reformed):
        """Keeps the answers as they are before a deed."""
        self._before = dict(self._answers)
        self._reformed = reformed

    def _renew(self, laid, touched):
        """Makes anew the entries that were laid, those that speak of what was touched, and what hangs on them."""
        circles = self._circles
        self._links = held_links({name: _entries_in(pairs) for name, pairs in self._spoken.items()})
        self._circles = circles_in(self._links)
        self._answers = {name: ("circle",) for name in self._circles}
        # An entry in a circle, or behind one, may have changed by it alone; all others follow in their order.
        made = {name: True for name in laid}
        for name, pairs in self._spoken.items():
            if any([pair in touched for pair in pairs]) or (name in circles) != (name in self._circles):
                made[name] = True
        for name in order_behind(self._links, self._circles):
            if name in made or self._has_news(name):
                made[name] = True
                self._answers[name] = self._answer_of(name)
            else:
                self._answers[name] = self._before[name]
        for name in self._circles:
            if name not in made and self._has_news(name):
                made[name] = True
        self._made = len(made)

    def _has_news(self, name):
        """Returns whether an entry speaks of one that has another answer now than before the deed."""
        return any([self._answers[other] != self._before.get(other) for other in self._links[name]])

    def _answer_of(self, name):
        """Returns the answer of an entry that is in no circle, if those of which it speaks have theirs."""
        fitting = {zone: self._zones[zone] for zone in self._zones if self._fitting[zone]}
        return _answer_outside(self._calendar, fitting, self._answers, self._entries[name], self._spoken[name])


def answer_of(calendar, zones, entries, name):
    """Returns the answer of the entry with a name among zones and entries, from nothing (point 52)."""
    fitting = {zone: zones[zone] for zone in zones if zone_word(calendar, zones[zone]) is None}
    spoken = {one: names_in(entries[one]) for one in entries}
    links = held_links({one: _entries_in(pairs) for one, pairs in spoken.items()})
    circles = circles_in(links)
    answers = {one: ("circle",) for one in circles}
    needed = reached_from(links, name)
    for one in order_behind(links, circles):
        if one == name or one in needed:
            answers[one] = _answer_outside(calendar, fitting, answers, entries[one], spoken[one])
    return answers[name]


def _answer_outside(calendar, fitting, answers, expression, pairs):
    """Returns the answer of an entry that is in no circle: items 2 to 6 of point 52.

    fitting is a dict of the zones that fit, answers one of answers, with all entries that are held and of which it
    speaks; pairs is what names_in tells of the expression.
    """
    answer = unheld(fitting, answers, pairs)
    return told(calendar, fitting, answers, expression) if answer is None else answer


def _entries_in(pairs):
    """Returns a list of the names of entries in what names_in tells."""
    return [name for kind, name in pairs if kind == "entry"]


def _refuse_name(name):
    """Raises InvalidName if a value is not a name."""
    if not is_name(name):
        raise InvalidName(name)


def _refuse_calendar(calendar):
    """Raises InvalidCalendar if a calendar has a fault."""
    word = calendar_fault(calendar)
    if word is not None:
        raise InvalidCalendar(word)
