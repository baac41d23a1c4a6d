"""Elimination modulo 2.

A row is a word here, with a 1 at the place of each of its cells, and a lot of keys a mark, a word with a 1 at the
place of each of its keys; so lots are added as words are. A span is a dict of sums of rows, no two as wide as each
other: {how wide: (sum, mark of the keys whose rows were added)}.
"""


def row_word(row):
    """The word with a 1 at the place of each cell of a row."""
    word = 0
    for cell in row:
        word = word | 1 << cell
    return word


def row_words(book):
    """The list of the words of all rows of a book."""
    return [row_word(row) for row in book[1]]


def how_many_cells(word):
    """How many places of a word have a 1."""
    digits = f"{word:b}"
    return digits.count("1")


def reduced(span, word, mark):
    """(word, mark) with sums of the span added as long as one is as wide: word 0 exactly if the span makes it."""
    while word.bit_length() in span:
        known, known_mark = span[word.bit_length()]
        word = word ^ known
        mark = mark ^ known_mark
    return (word, mark)


def sifted(words, lot):
    """(span, kept, closed): kept are the keys of a lot that are free together with the kept ones ahead of them.

    The span is that of the kept keys' words; closed has for each other key the mark of the one closed lot that it
    makes with kept ones.
    """
    span = {}
    kept = []
    closed = []
    for key in lot:
        word, mark = reduced(span, words[key], 1 << key)
        if word == 0:
            closed.append(mark)
        else:
            span[word.bit_length()] = (word, mark)
            kept.append(key)
    return (span, kept, closed)


def sifted_all(words):
    """What sifted tells of all keys."""
    return sifted(words, list(range(len(words))))
