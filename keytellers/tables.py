"""Tables: a word for each cell, which tell of a key the sum of the words at the cells of its row."""

from keytellers.books import check_book, check_key
from keytellers.errors import InvalidTable, InvalidValues, NoTable
from keytellers.forms import are_so_many, check_number
from keytellers.spans import row_words, sifted_all
from keytellers.words import added_all, bits, is_word


def told(book, table, key):
    """What a table tells of a key."""
    check_book(book)
    check_table(book, table)
    check_key(book, key)
    return told_at(table, book[1][key])


def values_of(book, table):
    """What a table tells of all keys."""
    check_book(book)
    check_table(book, table)
    return tuple([told_at(table, row) for row in book[1]])


def settle(book, values):
    """("table", the first table that tells the values), or ("lot", a closed lot whose values do not add up to 0)."""
    check_book(book)
    check_values(book, values)
    span, _, closed = sifted_all(row_words(book))
    lot = first_unsettled(closed, values)
    if lot is not None:
        return ("lot", lot)
    return ("table", table_of(book[0], span, values))


def first_table(book, values):
    """The first, as tuples compare, of the tables that tell the values."""
    outcome, found = settle(book, values)
    if outcome == "lot":
        raise NoTable(found)
    return found


def how_many(book, w, values):
    """How many tables of words of w bits tell the values."""
    check_book(book)
    check_number(w, 1)
    check_values(book, values)
    if not all(is_word(w, value) for value in values):
        raise InvalidValues(values)
    _, kept, closed = sifted_all(row_words(book))
    if first_unsettled(closed, values) is not None:
        return 0
    # Each kept key settles the word of one cell, whatever the words of the others are.
    return 1 << w * (book[0] - len(kept))


def is_told(book, table, values):
    """Whether a table tells the values."""
    check_book(book)
    check_table(book, table)
    check_values(book, values)
    return values_of(book, table) == values


def fitting(book, values):
    """The lot that takes each key, ascending, if some table tells the values of it and of those taken ahead."""
    check_book(book)
    check_values(book, values)
    _, kept, closed = sifted_all(row_words(book))
    lots = [bits(mark) for mark in closed]
    # The kept keys can have any values, and each other one, the last one of its lot, just what they make it have.
    made = [lot[-1] for lot in lots if added_up(values, lot) == 0]
    return tuple(sorted(kept + made))


def told_at(table, row):
    """What a table tells of a key with this row."""
    return added_all([table[cell] for cell in row])


def added_up(values, lot):
    """The sum of the values of a lot."""
    return added_all([values[key] for key in lot])


def first_unsettled(closed, values):
    """The first lot, of those with these marks, whose values do not add up to 0, or None."""
    for mark in closed:
        lot = bits(mark)
        if added_up(values, lot) != 0:
            return lot
    return None


def table_of(m, span, values):
    """The first table, as tuples compare, that gives each sum of rows in a span the sum of its keys' values."""
    table = [0] * m
    # A cell that is the last one of no sum can have any word, so 0; the last cell of a sum has the one that the words
    # ahead of it leave, its own being 0 until then.
    for cell in range(m):
        if cell + 1 in span:
            word, mark = span[cell + 1]
            table[cell] = added_up(values, bits(mark)) ^ told_at(table, bits(word))
    return tuple(table)


def check_table(book, table):
    """Raises InvalidTable if it is no table of the book."""
    if not are_so_many(table, book[0]):
        raise InvalidTable(table)


def check_values(book, values):
    """Raises InvalidValues if they are no values of the book."""
    if not are_so_many(values, len(book[1])):
        raise InvalidValues(values)
