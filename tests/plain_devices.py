"""Devices by the words of points 60 to 68, each answer made anew from all deeds."""

from everydue.books import Book


class PlainDevice:

    def __init__(self, calendar, number):
        self.calendar, self.number = calendar, number
        self.kept, self.settled, self.laid = {}, None, 0
        self.settles = []

    def undoes(self, stamp, undo):
        """Whether the deed with the stamp undo undoes that with the stamp, by point 62 and 67."""
        if undo not in self.kept or self.kept[undo] != ("undo", stamp) or stamp not in self.kept:
            return False
        if undo[1] != stamp[1] or undo[0] <= stamp[0] or self.is_undone(undo):
            return False
        # What was settled once is for good, also if more is settled later.
        return not any(stamp <= settled < undo for settled in self.settles)

    def is_undone(self, stamp):
        return any(self.undoes(stamp, undo) for undo in self.kept)

    def working(self):
        return [(stamp, self.kept[stamp]) for stamp in sorted(self.kept) if self.kept[stamp][0] != "undo" and not self.is_undone(stamp)]

    def keep(self, coming):
        new = {stamp: action for stamp, action in coming if stamp not in self.kept}
        if new:
            before = self.working()
            self.kept.update(new)
            after = self.working()
            many = max(k for k in range(len(after) + 1) if before[:k] == after[:k])
            self.laid = len(after) - many

    def make(self, action):
        stamp = (max([0, *[count for count, _ in self.kept]]) + 1, self.number)
        self.keep([(stamp, action)])
        return stamp

    def receive(self, deeds):
        """Returns None, or the error that is due, for deeds of the form of point 59."""
        for number, (stamp, action) in enumerate(deeds):
            if self.kept.get(stamp, action) != action or any(one == stamp and other != action for one, other in deeds[:number]):
                return ("BadDeed", number)
            if self.settled is not None and stamp <= self.settled and stamp not in self.kept:
                return ("TooLate", number)
        self.keep(deeds)
        return None

    def book(self):
        """A book by all working deeds, one behind the other."""
        book = Book(self.calendar)
        for _, action in self.working():
            getattr(book, action[0].replace(" ", "_"))(*action[1:])
        return book

    def own(self):
        return [stamp for stamp in sorted(self.kept) if stamp[1] == self.number]

    def undo_last(self):
        own = [stamp for stamp in self.own() if self.kept[stamp][0] != "undo" and not self.is_undone(stamp)]
        if not own or self.settled is not None and own[-1] <= self.settled:
            return None
        return self.make(("undo", own[-1]))

    def redo_last(self):
        works = [stamp for stamp, _ in self.working() if stamp[1] == self.number]
        found = []
        for undo in self.own():
            if self.kept[undo][0] != "undo" or self.is_undone(undo) or self.settled is not None and undo <= self.settled:
                continue
            named = self.kept[undo][1]
            if self.undoes(named, undo) and self.kept[named][0] != "undo" and all(undo > stamp for stamp in works):
                found.append(undo)
        return self.make(("undo", max(found))) if found else None

    def settle(self, stamp):
        """Returns None, or the stamp for which nothing is settled."""
        up_to = [kept for kept in self.kept if kept <= stamp]
        if not up_to or self.settled is not None and max(up_to) <= self.settled:
            return None
        for undo in sorted(self.kept):
            if undo > max(up_to) and any(self.undoes(kept, undo) for kept in up_to):
                return undo
        self.settled = max(up_to)
        self.settles.append(self.settled)
        return None
