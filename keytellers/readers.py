"""Readers: what has a text as texts.py shows it."""

from keytellers.books import is_book
from keytellers.errors import Unreadable
from keytellers.filters import is_filter
from keytellers.forms import are_unlike
from keytellers.mixings import is_mixing
from keytellers.texts import NOTHING, NO_CELL

# An integer that is read has at most so many digits.
DIGITS = 18


def read_book(text):
    """The book that has this text."""
    lines = text.split("\n")
    m = number_behind("book", lines[0])
    if m is None:
        raise Unreadable(1)
    rows = []
    for n, line in enumerate(lines[1:], 2):
        row = numbers_of(line)
        if row is None:
            raise Unreadable(n)
        rows.append(row)
    told = (m, tuple(rows))
    if not is_book(told):
        raise Unreadable(0)
    return told


def read_words(text):
    """The tuple of integers that has this text."""
    return read_line(text, words_of)


def read_placing(text):
    """The placing of some book that has this text."""
    return read_line(text, placing_of)


def read_road(text):
    """The tuple of pairs that has this text."""
    return read_line(text, road_of)


def read_mixing(text):
    """The mixing that has this text."""
    return read_line(text, mixing_of)


def read_filter(text):
    """The filter that has this text."""
    lines = text.split("\n")
    w = number_behind("filter", lines[0])
    if w is None:
        raise Unreadable(1)
    mixing = mixing_of(lines[1]) if len(lines) > 1 else None
    if mixing is None:
        raise Unreadable(2)
    table = words_of(lines[2]) if len(lines) > 2 else None
    if table is None:
        raise Unreadable(3)
    if len(lines) > 3:
        raise Unreadable(4)
    told = (mixing, w, table)
    if not is_filter(told):
        raise Unreadable(0)
    return told


def read_line(text, of_line):
    """What a text of one line has, if of_line does not answer None."""
    line, newline, _ = text.partition("\n")
    told = of_line(line)
    if told is None:
        raise Unreadable(1)
    if newline != "":
        raise Unreadable(2)
    return told


def number_behind(word, line):
    """The integer that a line shows behind a word, or None."""
    first, _, second = line.partition(" ")
    return integer_of(second) if first == word else None


def numbers_of(line):
    """The tuple of integers, one or more, that a line shows, or None."""
    return integers_of(line, " ")


def words_of(line):
    """The tuple of integers, none or more, that a line shows, or None."""
    return () if line == NOTHING else numbers_of(line)


def placing_of(line):
    """The tuple of unlike cells, or None for a cell, that a line shows, or None."""
    if line == NOTHING:
        return ()
    words = line.split(" ")
    cells = [integer_of(word) for word in words if word != NO_CELL]
    if None in cells or not are_unlike(cells):
        return None
    return tuple([None if word == NO_CELL else integer_of(word) for word in words])


def road_of(line):
    """The tuple of pairs, none or more, that a line shows, or None."""
    return () if line == NOTHING else pairs_of(line, " ", "-")


def mixing_of(line):
    """The mixing that a line shows, or None."""
    parts = line.split(" : ")
    if len(parts) != 3:
        return None
    sizes = pair_of(parts[0], " ")
    pairs = pairs_of(parts[1], ", ", " ")
    mark = pair_of(parts[2], " ")
    if sizes is None or pairs is None or mark is None:
        return None
    told = (*sizes, pairs, mark)
    return told if is_mixing(told) else None


def pairs_of(text, between, within):
    """The tuple of pairs of integers, one or more, with these signs between and within them, or None."""
    pairs = [pair_of(word, within) for word in text.split(between)]
    return None if None in pairs else tuple(pairs)


def pair_of(text, within):
    """The pair of integers with these signs between them, or None."""
    told = integers_of(text, within)
    return told if told is not None and len(told) == 2 else None


def integers_of(text, between):
    """The tuple of integers, one or more, with these signs between them, or None."""
    told = [integer_of(word) for word in text.split(between)]
    return None if None in told else tuple(told)


def integer_of(word):
    """The integer from 0 on that a word shows, or None."""
    if not word.isascii() or not word.isdigit() or len(word) > DIGITS:
        return None
    return int(word) if word == "0" or word[0] != "0" else None
