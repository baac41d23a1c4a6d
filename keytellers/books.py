"""Books: how many cells there are, and for each key the cells of its row."""

from keytellers.errors import InvalidBook, InvalidCell, InvalidKey, InvalidLot, InvalidRow
from keytellers.forms import are_integers, is_ascending, is_below, is_integer


def is_book(told):
    """Whether it is a book."""
    if not isinstance(told, tuple) or len(told) != 2:
        return False
    m, rows = told
    if not is_integer(m, 1) or not isinstance(rows, tuple):
        return False
    return all(row != () and is_ascending(row, m) for row in rows)


def book(m, rows):
    """The book of m cells and a list or tuple of rows, each a list or tuple of cells."""
    if not is_integer(m, 1):
        raise InvalidBook(m)
    return (m, tuple([row_of_cells(m, row) for row in rows]))


def with_key(book, row):
    """The book with a key more, the last one."""
    check_book(book)
    m, rows = book
    return (m, (*rows, row_of_cells(m, row)))


def without_key(book, key):
    """The book without a key, later ones one less."""
    check_book(book)
    check_key(book, key)
    m, rows = book
    return (m, rows[:key] + rows[key + 1:])


def keys_of(book, cell):
    """The lot of the keys whose row has a cell."""
    check_book(book)
    check_cell(book, cell)
    return tuple([key for key, row in enumerate(book[1]) if cell in row])


def cells_of(book, lot):
    """The ascending tuple of the cells of a lot's rows."""
    check_book(book)
    check_lot(book, lot)
    rows = book[1]
    return tuple(sorted({cell for key in lot for cell in rows[key]}))


def part(book, lot):
    """The book of the keys of a lot, in their sequence."""
    check_book(book)
    check_lot(book, lot)
    m, rows = book
    return (m, tuple([rows[key] for key in lot]))


def row_of_cells(m, row):
    """The row of a list or tuple of cells below m in any sequence, perhaps some twice."""
    if not are_integers(row, 0) or len(row) == 0 or max(row) >= m:
        raise InvalidRow(row)
    return tuple(sorted(set(row)))


def check_book(book):
    """Raises InvalidBook if it is no book."""
    if not is_book(book):
        raise InvalidBook(book)


def check_key(book, key):
    """Raises InvalidKey if it is no key of the book."""
    if not is_below(key, len(book[1])):
        raise InvalidKey(key)


def check_cell(book, cell):
    """Raises InvalidCell if it is no cell of the book."""
    if not is_below(cell, book[0]):
        raise InvalidCell(cell)


def check_lot(book, lot):
    """Raises InvalidLot if it is no lot of keys of the book."""
    if not is_ascending(lot, len(book[1])):
        raise InvalidLot(lot)
