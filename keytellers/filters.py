"""Filters: tables that let in each number of a lot, and few others."""

from math import lcm

from keytellers.errors import InvalidFilter
from keytellers.forms import are_so_many, check_number, is_integer
from keytellers.mixings import book_of, check_mixing, check_numbers, is_mixing, mark_of, row_of
from keytellers.tables import first_table, told_at
from keytellers.words import is_word


def is_filter(told):
    """Whether it is a filter."""
    if not isinstance(told, tuple) or len(told) != 3:
        return False
    mixing, w, table = told
    if not is_mixing(mixing) or not is_integer(w, 1):
        return False
    return are_so_many(table, mixing[0]) and all(is_word(w, word) for word in table)


def filter_of(mixing, w, numbers):
    """The filter of a list or tuple of unlike numbers whose table is the first one as tuples compare."""
    check_mixing(mixing)
    check_number(w, 1)
    check_numbers(numbers)
    marks = tuple([mark_of(mixing, w, x) for x in numbers])
    return (mixing, w, first_table(book_of(mixing, numbers), marks))


def lets_in(mesh, x):
    """Whether a filter lets a number in."""
    check_filter(mesh)
    check_number(x, 0)
    return is_in(mesh, x)


def wrongly(mesh, numbers, many):
    """The ascending list of the numbers below many, none of these numbers, that a filter lets in."""
    check_filter(mesh)
    check_number(many, 0)
    check_numbers(numbers)
    return [x for x in range(many) if x not in numbers and is_in(mesh, x)]


def how_many_in(mesh, many):
    """How many numbers below many a filter lets in."""
    check_filter(mesh)
    check_number(many, 0)
    return how_many_below(in_round(mesh, many), round_of(mesh), many)


def both(one, other, many):
    """How many numbers below many are let in by both of two filters."""
    check_filter(one)
    check_filter(other)
    check_number(many, 0)
    p = round_of(one)
    q = round_of(other)
    whole = lcm(p, q)
    by_other = {x: True for x in in_round(other, many)}
    inside = [x for start in in_round(one, many) for x in range(start, min(many, whole), p) if x % q in by_other]
    return how_many_below(inside, whole, many)


def is_in(mesh, x):
    """Whether a filter lets a number in."""
    mixing, w, table = mesh
    return told_at(table, row_of(mixing, x)) == mark_of(mixing, w, x)


def round_of(mesh):
    """After how many numbers comes round what a filter says of them: its row and mark are those of x modulo p."""
    return mesh[0][1]


def in_round(mesh, many):
    """The list of the numbers below many, of the first round alone, that a filter lets in."""
    return [x for x in range(min(many, round_of(mesh))) if is_in(mesh, x)]


def how_many_below(inside, whole, many):
    """How many numbers below many are those inside or whole rounds behind them."""
    rounds, rest = divmod(many, whole)
    return rounds * len(inside) + len([x for x in inside if x < rest])


def check_filter(mesh):
    """Raises InvalidFilter if it is no filter."""
    if not is_filter(mesh):
        raise InvalidFilter(mesh)
