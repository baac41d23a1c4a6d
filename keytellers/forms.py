"""What is an integer from some number on, a list or a tuple of such, and a pair of such."""

from keytellers.errors import InvalidNumber


def is_integer(told, least):
    """Whether it is an integer from least on."""
    # A truth value is an int to Python, but no integer to the package.
    return isinstance(told, int) and not isinstance(told, bool) and told >= least


def is_below(told, top):
    """Whether it is an integer from 0 on below top."""
    return is_integer(told, 0) and told < top


def are_integers(told, least):
    """Whether it is a list or a tuple of integers from least on."""
    return isinstance(told, (list, tuple)) and all(is_integer(one, least) for one in told)


def are_so_many(told, many):
    """Whether it is a tuple of just so many integers from 0 on."""
    return isinstance(told, tuple) and len(told) == many and are_integers(told, 0)


def is_ascending(told, top):
    """Whether it is an ascending tuple of integers from 0 on below top, each once."""
    if not isinstance(told, tuple):
        return False
    least = 0
    for one in told:
        if not is_integer(one, least) or one >= top:
            return False
        least = one + 1
    return True


def is_pair(told, top, second_top):
    """Whether it is a tuple of two integers from 0 on, the first one below top, the other one below second_top."""
    return isinstance(told, tuple) and len(told) == 2 and is_below(told[0], top) and is_below(told[1], second_top)


def are_pairs(told, top, second_top):
    """Whether it is a tuple of such pairs, none or more."""
    return isinstance(told, tuple) and all(is_pair(one, top, second_top) for one in told)


def are_unlike(some):
    """Whether no two of some integers are alike."""
    return len(set(some)) == len(some)


def check_number(told, least):
    """Raises InvalidNumber if it is no integer from least on."""
    if not is_integer(told, least):
        raise InvalidNumber(told)
