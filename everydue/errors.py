"""The errors that the package raises."""


class EverydueError(ValueError):
    """Something cannot be done."""


class NoSuchDay(EverydueError):
    """There is no day with a date."""


class TooLarge(EverydueError):
    """There would be too many borders, days or pairs."""


class InvalidZone(EverydueError):
    """A value is not of the form of a zone."""


class NoShift(EverydueError):
    """What went and what came cannot be told of an entry."""


class KindsDiffer(EverydueError):
    """One expression tells days and another one moments."""


# The messages below do not show the fields: a value that is refused may be too long, or too deep, to be shown.


class InvalidName(EverydueError):
    """A name is not 1 to 12 of the letters a to z."""

    def __init__(self, name):
        super().__init__("a name is 1 to 12 of the letters a to z")
        self.name = name


class UnknownName(EverydueError):
    """A book has no entry with a name."""

    def __init__(self, name):
        super().__init__("the book has no entry with this name")
        self.name = name


class InvalidExpression(EverydueError):
    """An expression has a fault at a place."""

    def __init__(self, place):
        super().__init__("the expression has a fault")
        self.place = place


class InvalidCalendar(EverydueError):
    """A calendar has a fault, told by a word."""

    def __init__(self, word):
        super().__init__("the calendar has a fault")
        self.word = word


class NoPaper(EverydueError):
    """An expression has no paper, since its answer is not a set."""

    def __init__(self, answer):
        super().__init__("the expression has no paper")
        self.answer = answer


class InvalidWord(EverydueError):
    """The word with a number, counted from 0, of a text cannot be read."""

    def __init__(self, number):
        super().__init__("a word of the text cannot be read")
        self.number = number


class BadDeed(EverydueError):
    """The deed with a number, counted from 0, of a list cannot be taken."""

    def __init__(self, number):
        super().__init__("a deed of the list cannot be taken")
        self.number = number


class TooLate(EverydueError):
    """The deed with a number, counted from 0, of a list comes behind the settling of its stamp."""

    def __init__(self, number):
        super().__init__("a deed of the list comes too late")
        self.number = number


class NotSettled(EverydueError):
    """Deeds cannot be settled because of the undo with a stamp."""

    def __init__(self, stamp):
        super().__init__("the deeds cannot be settled")
        self.stamp = stamp
