"""Room: how many bits tables have, and how few a filter can do with."""

from math import comb, gcd

from keytellers.books import check_book
from keytellers.errors import InvalidNumber
from keytellers.forms import check_number


def bits_of(book, w):
    """How many bits a table of words of w bits has."""
    check_book(book)
    check_number(w, 1)
    return book[0] * w


def share(book, w):
    """(top, bottom), in lowest terms: the bits of values of w bits for all keys by those of a table."""
    check_book(book)
    check_number(w, 1)
    # Both have the factor w, so it is of no account.
    m, rows = book
    common = gcd(len(rows), m)
    return (len(rows) // common, m // common)


def ways(k, n):
    """In how many ways n of k things can be chosen, 0 if n is more."""
    check_number(k, 0)
    check_number(n, 0)
    return comb(k, n)


def least_bits(u, n, f):
    """The least b with which filters of n of u numbers can let in at most f others."""
    check_number(u, 0)
    check_number(n, 0)
    if n > u:
        raise InvalidNumber(n)
    check_number(f, 0)
    wanted = ways(u, n)
    each = ways(n + f, n)
    # The last of so many filters, counted from 0, needs as many bits as its number has.
    filters = (wanted + each - 1) // each
    return (filters - 1).bit_length()
