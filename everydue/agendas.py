"""What begins next in a book, and which of its entries meet (points 90 to 94)."""

from everydue.errors import TooLarge
from everydue.joins import moved, without
from everydue.minutes import moment_nearest, moment_next, moments_meet, moments_moved, moments_without
from everydue.questions import next_in


def agenda(book, first, end, most):
    """Returns a list of the first moments from first to end - 1 at which entries begin, with their names (point 91)."""
    calendar = book.calendar()
    begins = _begins(book)
    ahead = {name: _next_begin(calendar, begins[name], first) for name in begins}
    found = []
    while len(found) < most:
        coming = [moment for moment in ahead.values() if moment is not None]
        if not coming or min(coming) >= end:
            break
        now = min(coming)
        names = [name for name in sorted(ahead) if ahead[name] == now]
        found.append((now, tuple(names)))
        for name in names:
            ahead[name] = _next_begin(calendar, begins[name], now + 1)
    return found


def _begins(book):
    """Returns a dict of the answers that tell the days, or moments, with which the entries of a book begin."""
    calendar = book.calendar()
    begins = {}
    for name in book.names():
        answer = book.answer(name)
        if answer[0] == "days":
            begins[name] = ("days", without(answer[1], moved(answer[1], 1)))
        elif answer[0] == "moments":
            later = moments_moved(calendar, answer[1], 1)
            begins[name] = ("moments", moments_without(calendar, answer[1], later))
    return begins


def _next_begin(calendar, begins, moment):
    """Returns the first moment from a moment on at which what has such begins begins, or None."""
    if begins[0] == "moments":
        return moment_next(calendar, begins[1], moment)
    # A day counts from its first moment on.
    day = next_in(begins[1], -(-moment // calendar[6]))
    return None if day is None else day * calendar[6]


def clashes(book, near):
    """Returns a list of tuples (one, two, moment) of the pairs of entries that meet (point 92)."""
    told = _telling_moments(book)
    return _clashes_of(book.calendar(), told, _pairs_of(told), near)


def _telling_moments(book):
    """Returns a dict of the minutesets of all entries of a book that tell moments, in ascending order of the names."""
    answers = {name: book.answer(name) for name in book.names()}
    return {name: answer[1] for name, answer in answers.items() if answer[0] == "moments"}


def _pairs_of(told):
    """Returns an ascending list of the pairs of different names, the lesser one first."""
    names = sorted(told)
    return [(one, two) for index, one in enumerate(names) for two in names[index + 1:]]


def _clashes_of(calendar, told, pairs, near):
    """Returns a list of tuples (one, two, moment) of those of some pairs that meet."""
    rows = [(one, two, _meeting(calendar, told[one], told[two], near)) for one, two in pairs]
    return [row for row in rows if row[2] is not None]


def _meeting(calendar, one, two, near):
    """Returns the moment nearest to a moment at which two minutesets meet, None if they do not, or the word large."""
    try:
        return moment_nearest(calendar, moments_meet(calendar, one, two), near)
    except TooLarge:
        return "large"


class Watch:
    """The clashes of a book, looked for again only where entries changed (points 93 and 94)."""

    def __init__(self, book, near):
        self._book = book
        self._near = near
        self._calendar = None
        self._told = {}
        self._found = []
        self._looked = 0
        self.renew()

    def renew(self):
        """Looks at the book again."""
        calendar = self._book.calendar()
        told = _telling_moments(self._book)
        again = []
        for one, two in _pairs_of(told):
            if calendar != self._calendar or self._is_new(told, one) or self._is_new(told, two):
                again.append((one, two))
        looked = {pair: True for pair in again}
        kept = [row for row in self._found if row[0] in told and row[1] in told and (row[0], row[1]) not in looked]
        found = _clashes_of(calendar, told, again, self._near)
        self._found = sorted([*kept, *found], key=lambda row: (row[0], row[1]))
        self._looked = len(again)
        self._calendar = calendar
        self._told = told

    def clashes(self):
        """Returns a list of what the last look found, as the function clashes tells it."""
        return list(self._found)

    def looked(self):
        """Returns at how many pairs the last look looked."""
        return self._looked

    def _is_new(self, told, name):
        """Returns whether an entry has another answer than at the last look."""
        return name not in self._told or self._told[name] != told[name]
