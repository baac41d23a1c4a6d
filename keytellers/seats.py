"""Seats of keys, one cell for each from its row, and short lots, whose rows have too few cells."""

from keytellers.books import cells_of, check_book, check_lot
from keytellers.chains import all_in, are_seats, chain_along, moved, pairs_to_come, placed_keys, reached
from keytellers.errors import InvalidSeats, NoSeats
from keytellers.forms import is_below
from keytellers.spans import how_many_cells, row_words


def settled(book):
    """("seats", seats of all keys), or ("short", a short lot)."""
    placing = all_in(book)
    for key, cell in enumerate(placing):
        if cell is None:
            return ("short", reached(book, placing, key))
    return ("seats", placing)


def is_seated(book, lot, told):
    """Whether a tuple of cells are seats of a lot."""
    check_book(book)
    check_lot(book, lot)
    m, rows = book
    if not isinstance(told, tuple) or not all(is_below(cell, m) for cell in told):
        raise InvalidSeats(told)
    return are_seats([rows[key] for key in lot], told)


def is_short(book, lot):
    """Whether the rows of a lot have fewer cells together than it has keys."""
    return len(cells_of(book, lot)) < len(lot)


def most_seated(book):
    """The first, as tuples compare, of the lots with most keys that have seats."""
    # A key that has got a cell keeps one, and it costs at most one later key its seat, so no other lot is ahead.
    return tuple(placed_keys(all_in(book)))


def first_seats(book):
    """The first seats, as tuples compare, of all keys."""
    outcome, found = settled(book)
    if outcome == "short":
        raise NoSeats(found)
    rows = list(book[1])
    seats = found
    for key, row in enumerate(book[1]):
        seats = moved(seats, ((key, None),))
        to_come = pairs_to_come(rows, seats)
        # A key with a row of one cell is not moved any more by the chains of later keys.
        rows[key] = ([cell for cell in row if cell in to_come][0],)
        seats = moved(seats, chain_along(rows, seats, to_come, key))
    return seats


def least_short(book):
    """The short lot with the fewest keys, of these the first as tuples compare, or None."""
    # Where there is none, this tells so without a look at all lots.
    if settled(book)[0] == "seats":
        return None
    words = row_words(book)
    for many in range(1, len(words) + 1):
        lot = first_within(words, 0, 0, many, many - 1)
        if lot is not None:
            return lot
    return None


def first_within(words, start, cells, many, most):
    """The first lot of just so many keys from start on that has, with some cells, at most most cells, or None."""
    if how_many_cells(cells) > most:
        return None
    if many == 0:
        return ()
    for key in range(start, len(words) - many + 1):
        found = first_within(words, key + 1, cells | words[key], many - 1, most)
        if found is not None:
            return (key, *found)
    return None
