"""Choosers: tables of words below 4 that choose for each key a cell of its row, and number the keys so."""

from keytellers.books import check_book, check_key
from keytellers.cores import core, road
from keytellers.errors import HasCore, InvalidBook, InvalidNumber, InvalidTable, NotGood
from keytellers.forms import are_so_many, are_unlike, is_below

# How many words there are, and how many cells a row has at the most, so that each of them can be chosen.
CHOICES = 4


def chooser(book):
    """The good chooser that the road gives, the last key taken off first."""
    check_narrow(book)
    left = core(book)
    if left != ():
        raise HasCore(left)
    m, rows = book
    table = [0] * m
    # No key taken off later has the cell, so its word is still 0, and setting it leaves what is chosen for them.
    for key, cell in reversed(road(book)):
        row = rows[key]
        table[cell] = (row.index(cell) - words_at(table, row)) % len(row)
    return tuple(table)


def chosen(book, table, key):
    """The cell that a table of words below 4 chooses for a key."""
    check_narrow(book)
    check_chooser(book, table)
    check_key(book, key)
    return choice(table, book[1][key])


def is_good(book, table):
    """Whether a table of words below 4 chooses no cell twice."""
    check_narrow(book)
    check_chooser(book, table)
    return are_unlike(choices(book, table))


def number_of(book, table, key):
    """The number of a key: how many chosen cells are below its own."""
    check_narrow(book)
    check_chooser(book, table)
    check_key(book, key)
    return good_choices(book, table).index(choice(table, book[1][key]))


def key_of(book, table, number):
    """The key that has a number."""
    check_narrow(book)
    check_chooser(book, table)
    cells = good_choices(book, table)
    if not is_below(number, len(cells)):
        raise InvalidNumber(number)
    return choices(book, table).index(cells[number])


def words_at(table, row):
    """The sum, as numbers, of the words at the cells of a row."""
    return sum([table[cell] for cell in row])


def choice(table, row):
    """The cell that is chosen for a key with this row."""
    return row[words_at(table, row) % len(row)]


def choices(book, table):
    """The list of the cells that are chosen for all keys."""
    return [choice(table, row) for row in book[1]]


def good_choices(book, table):
    """The ascending list of the cells that are chosen, none of them twice."""
    cells = choices(book, table)
    if not are_unlike(cells):
        raise NotGood(table)
    return sorted(cells)


def check_narrow(book):
    """Raises InvalidBook if it is no book, or one with a row of more than 4 cells."""
    check_book(book)
    if any(len(row) > CHOICES for row in book[1]):
        raise InvalidBook(book)


def check_chooser(book, table):
    """Raises InvalidTable if it is no table of the book, or one with a word of 4 or more."""
    if not are_so_many(table, book[0]) or max(table) >= CHOICES:
        raise InvalidTable(table)
