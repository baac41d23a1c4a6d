"""Cores and roads: keys are taken off by lone cells, cells that no other key that is left has."""

from keytellers.books import check_book
from keytellers.errors import InvalidRoad
from keytellers.forms import are_pairs
from keytellers.spans import row_words
from keytellers.tables import check_values, told_at
from keytellers.words import bits


def core(book):
    """The lot of the keys that are left when none can be taken off any more."""
    taken = [key for key, _ in road(book)]
    return tuple([key for key in range(len(book[1])) if key not in taken])


def road(book):
    """The road on which each time the least key that can be taken off is, with its least lone cell."""
    check_book(book)
    words = row_words(book)
    left = list(range(len(words)))
    steps = []
    step = least_step(words, left)
    while step is not None:
        steps.append(step)
        left.remove(step[0])
        step = least_step(words, left)
    return tuple(steps)


def is_road(book, told):
    """Whether a tuple of pairs is a road, also one that ends while keys can still be taken off."""
    check_book(book)
    check_pairs(book, told)
    words = row_words(book)
    left = list(range(len(words)))
    for key, cell in told:
        if key not in left or cell not in bits(words[key] & lone_word(words, left)):
            return False
        left.remove(key)
    return True


def table_back(book, values, told):
    """The table that a road that takes off all keys gives, the last key taken off first."""
    check_book(book)
    check_values(book, values)
    if not is_road(book, told) or len(told) != len(values):
        raise InvalidRoad(told)
    m, rows = book
    table = [0] * m
    # No key taken off later has the cell, so its word is still 0, and setting it leaves what they are told.
    for key, cell in reversed(told):
        table[cell] = values[key] ^ told_at(table, rows[key])
    return tuple(table)


def lone_word(words, left):
    """The word with a 1 at the place of each cell that just one of the keys that are left has."""
    some = 0
    several = 0
    for key in left:
        several = several | some & words[key]
        some = some | words[key]
    return some ^ several


def least_step(words, left):
    """(key, cell): the least key that can be taken off, with its least lone cell, or None."""
    lone = lone_word(words, left)
    for key in left:
        if words[key] & lone != 0:
            return (key, bits(words[key] & lone)[0])
    return None


def check_pairs(book, told):
    """Raises InvalidRoad if it is no tuple of pairs of a key and a cell of the book."""
    m, rows = book
    if not are_pairs(told, len(rows), m):
        raise InvalidRoad(told)
