"""Words, integers from 0 on that are added bit by bit."""

from keytellers.errors import InvalidWord
from keytellers.forms import are_integers, check_number, is_integer


def added(a, b):
    """The sum of two words."""
    check_word(a)
    check_word(b)
    return a ^ b


def added_all(some):
    """The sum of a list or tuple of words, 0 of none."""
    if not are_integers(some, 0):
        raise InvalidWord(some)
    total = 0
    for word in some:
        total = total ^ word
    return total


def bits(a):
    """The ascending tuple of the places of the bits of a word that are 1."""
    check_word(a)
    return tuple([place for place in range(a.bit_length()) if a >> place & 1])


def width(a):
    """The least w so that it is a word of w bits."""
    check_word(a)
    return max(1, a.bit_length())


def is_word(w, told):
    """Whether it is a word of w bits."""
    check_number(w, 1)
    return is_integer(told, 0) and told.bit_length() <= w


def check_word(told):
    """Raises InvalidWord if it is no word of any width."""
    if not is_integer(told, 0):
        raise InvalidWord(told)
