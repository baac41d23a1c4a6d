"""Lots of keys: which are closed, and which are free."""

from keytellers.books import check_book, check_key, check_lot
from keytellers.errors import InvalidKey, NotFree
from keytellers.spans import reduced, row_words, sifted, sifted_all
from keytellers.words import added_all, bits


def is_closed(book, lot):
    """Whether the lot has a key, and each cell stands in an even number of its rows."""
    check_book(book)
    check_lot(book, lot)
    words = row_words(book)
    return lot != () and added_all([words[key] for key in lot]) == 0


def is_free(book):
    """Whether no lot of the book is closed."""
    check_book(book)
    return closed_marks(book) == []


def free_lot(book):
    """The first, as tuples compare, of the free lots with most keys."""
    check_book(book)
    # A key that is kept bars at most one later key, so the first lot is one with most keys as well.
    kept = sifted_all(row_words(book))[1]
    return tuple(kept)


def closing(book, lot, key):
    """The one closed lot among a free lot and a key that is not in it, or None."""
    check_book(book)
    check_lot(book, lot)
    words = row_words(book)
    span, _, closed = sifted(words, lot)
    if closed != []:
        raise NotFree(lot)
    check_key(book, key)
    if key in lot:
        raise InvalidKey(key)
    word, mark = reduced(span, words[key], 1 << key)
    return bits(mark) if word == 0 else None


def how_many_closed(book):
    """How many closed lots there are."""
    check_book(book)
    # Each closed lot, and () too, is the sum of just one choice of lots of the closed base.
    return (1 << len(closed_marks(book))) - 1


def closed_base(book):
    """The ascending list of the closed lots that the keys not in free_lot make with it."""
    check_book(book)
    return sorted([bits(mark) for mark in closed_marks(book)])


def least_closed(book):
    """The closed lot with the fewest keys, of these the first as tuples compare, or None."""
    check_book(book)
    words = row_words(book)
    spans = later_spans(words)
    for many in range(1, len(words) + 1):
        lot = first_making(words, spans, 0, 0, many)
        if lot is not None:
            return lot
    return None


def closed_marks(book):
    """The marks of the lots of the closed base."""
    return sifted_all(row_words(book))[2]


def later_spans(words):
    """The list of, for each key, the span of its word and those of the later keys."""
    many = len(words)
    return [sifted(words, list(range(start, many)))[0] for start in range(many)]


def first_making(words, spans, start, total, many):
    """The first lot of just so many keys from start on whose words add up to total, or None."""
    if many == 0:
        return () if total == 0 else None
    # So only lots that some later keys close are gone on with, not all lots of so many keys.
    left, _ = reduced(spans[start], total, 0)
    if left != 0:
        return None
    for key in range(start, len(words) - many + 1):
        found = first_making(words, spans, key + 1, total ^ words[key], many - 1)
        if found is not None:
            return (key, *found)
    return None
