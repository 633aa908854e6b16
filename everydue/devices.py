"""Devices that have one book (points 59 to 68)."""

from everydue.actions import is_action, is_deed, lay
from everydue.books import Book
from everydue.errors import BadDeed, NotSettled, TooLate

_UNDO = "undo"


class Device:
    """The deeds that a device keeps, and the book that they make."""

    def __init__(self, calendar, number):
        self._calendar = calendar
        self._number = number
        # The actions that are kept, under their stamps.
        self._kept = {}
        # All stamps that were settled, ascending: what was for good once stays so.
        self._settled = []
        self._laid = 0
        # The working deeds, and those of them that made the book.
        self._works = []
        self._done = []
        self._book = Book(calendar)

    def make(self, action):
        """Makes a deed and returns its stamp (point 60); raises BadDeed."""
        if not is_action(action):
            raise BadDeed(0)
        return self._make(action)

    def receive(self, deeds):
        """Keeps a list of deeds, or refuses all of it (points 61 and 67); raises BadDeed or TooLate."""
        coming = {}
        for number, deed in enumerate(deeds):
            if not is_deed(deed):
                raise BadDeed(number)
            stamp, action = deed
            if self._kept.get(stamp, action) != action or coming.get(stamp, action) != action:
                raise BadDeed(number)
            if stamp not in self._kept:
                if self._is_settled(stamp):
                    raise TooLate(number)
                coming[stamp] = action
        self._keep(coming)

    def book(self):
        """Returns a book of its own, made by the working deeds (point 63)."""
        if self._done != self._works:
            lay(self._book, self._calendar, [action for _, action in self._works])
            self._done = self._works
        return self._book.twin()

    def deeds(self):
        """Returns the list of all kept deeds in the order of their stamps (point 65)."""
        return [(stamp, self._kept[stamp]) for stamp in sorted(self._kept)]

    def news(self, stamps):
        """Returns the list of the kept deeds whose stamps are not in a list (point 65)."""
        known = {stamp: True for stamp in stamps}
        return [deed for deed in self.deeds() if deed[0] not in known]

    def lacks(self, stamps):
        """Returns an ascending list of those stamps of a list that are not kept (point 65)."""
        return sorted(set([stamp for stamp in stamps if stamp not in self._kept]))

    def undo_last(self):
        """Undoes the last own deed that works, and returns the stamp of this; or returns None (point 66)."""
        own = [stamp for stamp, _ in self._works if stamp[1] == self._number]
        if not own or self._is_settled(own[-1]):
            return None
        return self._make((_UNDO, own[-1]))

    def redo_last(self):
        """Undoes the last own undo, if it can be redone, and returns the stamp of this; or returns None (point 66)."""
        undone = self._undone()
        own = [stamp for stamp in sorted(self._kept) if stamp[1] == self._number and stamp not in undone]
        for stamp in own[::-1]:
            if not self._is_undo(stamp) or self._is_settled(stamp):
                return None
            named = self._kept[stamp][1]
            if self._reaches(stamp, named) and not self._is_undo(named):
                return self._make((_UNDO, stamp))
        return None

    def settle(self, stamp):
        """Settles all kept deeds up to a stamp (point 67); raises NotSettled."""
        up_to = [kept for kept in sorted(self._kept) if kept <= stamp]
        if not up_to or self._is_settled(up_to[-1]):
            return
        undone = self._undone()
        for kept in sorted(self._kept)[len(up_to):]:
            if self._is_undo(kept) and kept not in undone:
                named = self._kept[kept][1]
                if named <= up_to[-1] and self._reaches(kept, named):
                    raise NotSettled(kept)
        self._settled.append(up_to[-1])

    def laid(self):
        """Returns how many working deeds the last change laid anew (point 68)."""
        return self._laid

    def _make(self, action):
        """Keeps a new deed with an action without a fault, and returns its stamp."""
        count = max([stamp[0] for stamp in self._kept], default=0) + 1
        stamp = (count, self._number)
        self._keep({stamp: action})
        return stamp

    def _keep(self, coming):
        """Keeps a dict of new actions under their stamps."""
        if not coming:
            return
        for stamp, action in coming.items():
            self._kept[stamp] = action
        before, undone = self._works, self._undone()
        self._works = [deed for deed in self.deeds() if deed[0] not in undone and deed[1][0] != _UNDO]
        # Under one stamp there is always the same deed.
        same = 0
        while same < len(before) and same < len(self._works) and before[same][0] == self._works[same][0]:
            same += 1
        self._laid = len(self._works) - same

    def _is_settled(self, stamp):
        """Returns whether a stamp is not behind the settled one."""
        return bool(self._settled) and stamp <= self._settled[-1]

    def _is_undo(self, stamp):
        """Returns whether the kept deed with a stamp is an undo."""
        return self._kept[stamp][0] == _UNDO

    def _reaches(self, stamp, named):
        """Returns whether the undo with a stamp undoes the deed that it names, if it is not undone itself."""
        if named not in self._kept or named[1] != stamp[1] or named[0] >= stamp[0]:
            return False
        # Behind a settled stamp nothing up to it can be undone.
        return not any([named <= settled < stamp for settled in self._settled])

    def _undone(self):
        """Returns a dict of the stamps of all kept deeds that are undone (point 62)."""
        undone = {}
        # Of each undo it is known whether it is undone: what could undo it has a greater count.
        for stamp in sorted(self._kept, reverse=True):
            if self._is_undo(stamp) and stamp not in undone and self._reaches(stamp, self._kept[stamp][1]):
                undone[self._kept[stamp][1]] = True
        return undone
