"""Placings and chains: which key has which cell, and how one more key gets one by others going over to other cells."""

from keytellers.books import check_book, check_key
from keytellers.errors import InvalidChain, InvalidKey, InvalidPlacing
from keytellers.forms import are_pairs, are_unlike, is_integer


def is_placing(book, told):
    """Whether it is a placing of the book."""
    check_book(book)
    rows = book[1]
    if not isinstance(told, tuple) or len(told) != len(rows):
        return False
    placed = placed_keys(told)
    return are_seats([rows[key] for key in placed], [told[key] for key in placed])


def chain(book, placing, key):
    """The chain for a key with the fewest pairs, of these the first as tuples compare, or None."""
    check_unplaced(book, placing, key)
    return first_chain(book[1], placing, key)


def reached(book, placing, key):
    """The lot of the keys that are reached from a key that has no cell."""
    check_unplaced(book, placing, key)
    rows = book[1]
    lot = [key]
    more = [key]
    while more:
        cells = [cell for one in more for cell in rows[one]]
        more = [one for one in placed_keys(placing) if placing[one] in cells and one not in lot]
        lot = lot + more
    return tuple(sorted(lot))


def is_chain(book, placing, key, told):
    """Whether a tuple of pairs is a chain for a key."""
    check_unplaced(book, placing, key)
    if not are_steps(book, told):
        raise InvalidChain(told)
    return told[0][0] == key and goes_through(book[1], placing, told)


def behind(book, placing, told):
    """The placing behind a chain."""
    check_placing(book, placing)
    if not are_steps(book, told) or not goes_through(book[1], placing, told):
        raise InvalidChain(told)
    return moved(placing, told)


def taken_out(book, placing, key):
    """The placing in which a key has no cell."""
    check_placing(book, placing)
    check_key(book, key)
    return moved(placing, ((key, None),))


def all_in(book):
    """The placing that comes if each key, ascending, is put in by its chain, those without one left out."""
    check_book(book)
    rows = book[1]
    placing = (None,) * len(rows)
    for key in range(len(rows)):
        found = first_chain(rows, placing, key)
        if found is not None:
            placing = moved(placing, found)
    return placing


def are_seats(rows, cells):
    """Whether so many things as there are rows are cells, one from each row, no two alike."""
    if len(cells) != len(rows) or not all(is_integer(cell, 0) for cell in cells):
        return False
    return all([cell in row for cell, row in zip(cells, rows)]) and are_unlike(cells)


def are_steps(book, told):
    """Whether it is a tuple of pairs of a key and a cell of the book, one or more."""
    m, rows = book
    return told != () and are_pairs(told, len(rows), m)


def goes_through(rows, placing, told):
    """Whether a tuple of pairs, one or more, is a chain for the key of its first pair."""
    keys = [key for key, _ in told]
    cells = [cell for _, cell in told]
    if not are_unlike(keys) or not all(cell in rows[key] for key, cell in told):
        return False
    # The first key has no cell, each later one that of the pair ahead of it, and the last cell is nobody's.
    return [placing[key] for key in keys] == [None] + cells[:-1] and cells[-1] not in placing


def first_chain(rows, placing, key):
    """The chain for a key with the fewest pairs, of these the first as tuples compare, or None."""
    return chain_along(rows, placing, pairs_to_come(rows, placing), key)


def pairs_to_come(rows, placing):
    """{cell: how many pairs a chain has at the least behind a pair with it}, without cells that lead nowhere."""
    to_come = {cell: 0 for row in rows for cell in row if cell not in placing}
    taken = placed_keys(placing)
    many = 0
    found = list(to_come)
    while found:
        many += 1
        taken = [key for key in taken if placing[key] not in to_come]
        found = [placing[key] for key in taken if any([one in to_come for one in rows[key]])]
        for cell in found:
            to_come[cell] = many
    return to_come


def chain_along(rows, placing, to_come, key):
    """The chain that goes from key to key by the cells with the fewest pairs to come, or None."""
    cell = nearest(rows[key], to_come)
    if cell is None:
        return None
    pairs = [(key, cell)]
    while cell in placing:
        one = placing.index(cell)
        cell = nearest(rows[one], to_come)
        pairs.append((one, cell))
    return tuple(pairs)


def nearest(row, to_come):
    """The cell of a row with the fewest pairs to come, of these the least, or None."""
    ahead = [(to_come[cell], cell) for cell in row if cell in to_come]
    return min(ahead)[1] if ahead else None


def placed_keys(placing):
    """The list of the keys that have a cell."""
    return [key for key, cell in enumerate(placing) if cell is not None]


def moved(placing, pairs):
    """The placing in which the keys of some pairs have the cells beside them, or none."""
    cells = list(placing)
    for key, cell in pairs:
        cells[key] = cell
    return tuple(cells)


def check_placing(book, placing):
    """Raises InvalidBook if it is no book, InvalidPlacing if it is no placing of the book."""
    if not is_placing(book, placing):
        raise InvalidPlacing(placing)


def check_unplaced(book, placing, key):
    """Raises what check_placing does, and InvalidKey if it is no key of the book, or one that has a cell."""
    check_placing(book, placing)
    check_key(book, key)
    if placing[key] is not None:
        raise InvalidKey(key)
