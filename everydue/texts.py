"""Texts of rules, daysets, minutesets and zones (points 76 to 81 and 83)."""

from everydue.ruletexts import read_rule, read_zone, rule_words, zone_words
from everydue.settexts import dayset_words, minuteset_words, read_dayset, read_minuteset
from everydue.words import read_whole_text, text_of


def format_rule(rule):
    """Returns the text of a rule (point 78)."""
    return text_of(rule_words(rule))


def parse_rule(text):
    """Returns the rule that a text tells; raises InvalidWord."""
    return read_whole_text(text, _read_told_rule)


def _read_told_rule(words):
    """Reads a rule with the word ahead of it."""
    words.take_one(("rule",))
    return read_rule(words)


def format_dayset(dayset):
    """Returns the text of a dayset (point 79)."""
    return text_of(["set", *dayset_words(dayset)])


def parse_dayset(text):
    """Returns the dayset that a text tells; raises InvalidWord."""
    return read_whole_text(text, _read_told_dayset)


def _read_told_dayset(words):
    """Reads a dayset with the word ahead of it."""
    words.take_one(("set",))
    return read_dayset(words)


def format_minuteset(minuteset):
    """Returns the text of a minuteset (point 80)."""
    return text_of(minuteset_words(minuteset))


def parse_minuteset(text):
    """Returns the minuteset that a text tells; raises InvalidWord."""
    return read_whole_text(text, read_minuteset)


def format_zone(zone):
    """Returns the text of a zone (point 81)."""
    return text_of(zone_words(zone))


def parse_zone(text):
    """Returns the zone that a text tells; raises InvalidWord."""
    return read_whole_text(text, read_zone)
