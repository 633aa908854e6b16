"""Texts of calendars, books, deeds, claims and papers (points 84 to 89)."""

from everydue.actions import lay
from everydue.books import Book
from everydue.claimtexts import claim_words, paper_words, read_claim, read_paper
from everydue.deedtexts import calendar_words, deed_words, read_calendar, read_deed
from everydue.exprtexts import expression_words, read_expression
from everydue.ruletexts import read_zone, zone_words
from everydue.words import read_whole_text, text_of


def format_calendar(calendar):
    """Returns the text of a calendar (point 84)."""
    return text_of(calendar_words(calendar))


def parse_calendar(text):
    """Returns the calendar that a text tells; raises InvalidWord."""
    return read_whole_text(text, read_calendar)


def format_book(book):
    """Returns the text of a book (point 85)."""
    words = ["book", *calendar_words(book.calendar())]
    for name in book.zones():
        words.extend(["with", name, *zone_words(book.zone(name))])
    for name in book.names():
        words.extend(["let", name, *expression_words(book.expression(name))])
    return text_of([*words, ";"])


def parse_book(text):
    """Returns the book that a text tells; raises InvalidWord."""
    calendar, actions = read_whole_text(text, _read_book)
    book = Book(calendar)
    lay(book, calendar, actions)
    return book


def _read_book(words):
    """Reads a book: the calendar, and the list of the actions that lay all else down."""
    words.take_one(("book",))
    calendar = read_calendar(words)
    actions = []
    names = []
    while words.take_if("with"):
        names.append(words.take_name_behind(names))
        actions.append(("put zone", names[-1], read_zone(words)))
    names = []
    while words.take_if("let"):
        names.append(words.take_name_behind(names))
        actions.append(("put", names[-1], read_expression(words)))
    words.take_one((";",))
    return calendar, actions


def format_deeds(deeds):
    """Returns the text of a list of deeds (point 86)."""
    return text_of(["deeds", *[word for deed in deeds for word in deed_words(deed)], ";"])


def parse_deeds(text):
    """Returns the list of deeds that a text tells; raises InvalidWord."""
    return read_whole_text(text, _read_deeds)


def _read_deeds(words):
    """Reads a list of deeds."""
    words.take_one(("deeds",))
    deeds = []
    while not words.take_if(";"):
        deeds.append(read_deed(words))
    return deeds


def format_claim(claim):
    """Returns the text of a claim (point 87)."""
    return text_of(claim_words(claim))


def parse_claim(text):
    """Returns the claim that a text tells; raises InvalidWord."""
    return read_whole_text(text, read_claim)


def format_paper(paper):
    """Returns the text of a paper (point 88)."""
    return text_of(paper_words(paper))


def parse_paper(text):
    """Returns the paper that a text tells; raises InvalidWord."""
    return read_whole_text(text, read_paper)
