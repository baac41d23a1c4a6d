"""Mixings: how the row and the mark of a number come from the number."""

from keytellers.cores import core
from keytellers.errors import InvalidMixing, InvalidValues
from keytellers.forms import are_integers, are_pairs, are_unlike, check_number, is_integer, is_pair
from keytellers.lots import least_closed


def is_mixing(told):
    """Whether it is a mixing."""
    if not isinstance(told, tuple) or len(told) != 4:
        return False
    m, p, pairs, mark = told
    if not is_integer(m, 1) or not is_integer(p, 2):
        return False
    return are_pairs(pairs, p, p) and len(pairs) > 0 and is_pair(mark, p, p)


def row_of(mixing, x):
    """The row of a number."""
    check_mixing(mixing)
    check_number(x, 0)
    m, p, pairs, _ = mixing
    return tuple(sorted({mixed(pair, p, x) % m for pair in pairs}))


def mark_of(mixing, w, x):
    """The mark of w bits of a number."""
    check_mixing(mixing)
    check_number(w, 1)
    check_number(x, 0)
    _, p, _, mark = mixing
    return mixed(mark, p, x) % (1 << w)


def book_of(mixing, numbers):
    """The book of the rows of a list or tuple of unlike numbers, in its sequence."""
    check_mixing(mixing)
    check_numbers(numbers)
    return (mixing[0], tuple([row_of(mixing, x) for x in numbers]))


def seeded(mixing, s):
    """The mixing seeded by s."""
    check_mixing(mixing)
    check_number(s, 0)
    m, p, pairs, mark = mixing
    return (m, p, tuple([seeded_pair(pair, p, s) for pair in pairs]), seeded_pair(mark, p, s))


def least_seed(mixing, numbers, most):
    """("seed", the least s for which the book is free), or ("none", for each s the least closed lot)."""
    return least_unbarred(mixing, numbers, most, least_closed)


def least_peeled(mixing, numbers, most):
    """("seed", the least s for which the core is ()), or ("none", for each s the core)."""
    return least_unbarred(mixing, numbers, most, core)


def mixed(pair, p, x):
    """What a pair makes of a number, below p."""
    a, b = pair
    return (a * x + b) % p


def seeded_pair(pair, p, s):
    """The pair seeded by s."""
    a, b = pair
    return ((a * (2 * s + 1) + s) % p, (b + s * s) % p)


def least_unbarred(mixing, numbers, most, bar_of):
    """("seed", the least s from 0 to most whose book has no bar), or ("none", the bars), a bar being a lot."""
    check_mixing(mixing)
    check_number(most, 0)
    check_numbers(numbers)
    bars = []
    for s in range(most + 1):
        bar = bar_of(book_of(seeded(mixing, s), numbers))
        if bar in (None, ()):
            return ("seed", s)
        bars.append(bar)
    return ("none", tuple(bars))


def check_mixing(mixing):
    """Raises InvalidMixing if it is no mixing."""
    if not is_mixing(mixing):
        raise InvalidMixing(mixing)


def check_numbers(numbers):
    """Raises InvalidValues if it is no list or tuple of unlike integers from 0 on."""
    if not are_integers(numbers, 0) or not are_unlike(numbers):
        raise InvalidValues(numbers)
