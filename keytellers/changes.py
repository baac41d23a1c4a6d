"""Changes: at which cells, and at how few of them, a table has to have other words."""

from itertools import combinations

from keytellers.books import check_book, part
from keytellers.errors import InvalidCell, InvalidTable
from keytellers.forms import are_integers, is_ascending
from keytellers.lots import free_lot
from keytellers.spans import row_word, row_words, sifted_all
from keytellers.tables import check_table, check_values, first_unsettled, settle, table_of, told_at


def changed(one, other):
    """The ascending tuple of the cells at which two tables of as many words have unlike ones."""
    check_words(one)
    check_words(other)
    if len(one) != len(other):
        raise InvalidTable(other)
    return tuple([cell for cell, word in enumerate(one) if word != other[cell]])


def fewest(book, table, values):
    """(the fewest cells at which other words are enough, the first table that tells the values so), or None."""
    check_book(book)
    check_table(book, table)
    check_values(book, values)
    if settle(book, values)[0] == "lot":
        return None
    # What tells the values of these keys tells those of the others too, as some table tells all of them.
    lot = free_lot(book)
    smaller = part(book, lot)
    values_left = tuple([values[key] for key in lot])
    for many in range(len(table) + 1):
        for cells in combinations(range(len(table)), many):
            found = refilled(smaller, table, values_left, cells)
            if found is not None:
                return (cells, found)
    return None


def is_enough(book, table, values, cells):
    """Whether some table that is as this one at all cells but some tells the values."""
    check_book(book)
    check_table(book, table)
    check_values(book, values)
    if not is_ascending(cells, book[0]):
        raise InvalidCell(cells)
    return refilled(book, table, values, cells) is not None


def refilled(book, table, values, cells):
    """The first table, as tuples compare, that tells the values and is as this one at all cells but some, or None."""
    m, rows = book
    kept = tuple([0 if cell in cells else word for cell, word in enumerate(table)])
    # The words at these cells have to tell what the others leave, by the parts of the rows that lie in them.
    missing = [value ^ told_at(kept, row) for value, row in zip(values, rows)]
    place = row_word(cells)
    span, _, closed = sifted_all([word & place for word in row_words(book)])
    if first_unsettled(closed, missing) is not None:
        return None
    filled = table_of(m, span, missing)
    return tuple([filled[cell] if cell in cells else word for cell, word in enumerate(table)])


def check_words(told):
    """Raises InvalidTable if it is no tuple of integers from 0 on, one or more."""
    if not isinstance(told, tuple) or told == () or not are_integers(told, 0):
        raise InvalidTable(told)
