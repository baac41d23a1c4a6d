"""Texts: how books, words, placings, roads and chains, mixings and filters are shown."""

# What stands for a tuple without anything in it, and for the cell of a key that has none.
NOTHING = "-"
NO_CELL = "*"


def show_book(book):
    """How many cells a book has, then a line for each row."""
    m, rows = book
    return "\n".join([f"book {m}"] + [show_words(row) for row in rows])


def show_words(words):
    """The integers of a tuple."""
    return spaced([str(word) for word in words])


def show_placing(placing):
    """The cells of a placing."""
    return spaced([NO_CELL if cell is None else str(cell) for cell in placing])


def show_road(told):
    """The pairs of a road or a chain."""
    return spaced([f"{key}-{cell}" for key, cell in told])


def show_mixing(mixing):
    """How many cells, and modulo what, then the pairs, then that of the mark."""
    m, p, pairs, mark = mixing
    between = ", ".join([show_words(pair) for pair in pairs])
    return f"{m} {p} : {between} : {show_words(mark)}"


def show_filter(mesh):
    """How many bits the words have, then the mixing, then the table."""
    mixing, w, table = mesh
    return "\n".join([f"filter {w}", show_mixing(mixing), show_words(table)])


def spaced(parts):
    """The parts, separated by a space, or the sign for none."""
    return " ".join(parts) if parts else NOTHING
