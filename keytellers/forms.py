"""What is an integer from some number on, and a list or a tuple of such."""


def is_integer(told, least):
    """Whether it is an integer from least on."""
    # A truth value is an int to Python, but no integer to the package.
    return isinstance(told, int) and not isinstance(told, bool) and told >= least


def are_integers(told, least):
    """Whether it is a list or a tuple of integers from least on."""
    return isinstance(told, (list, tuple)) and all(is_integer(one, least) for one in told)


def is_ascending(told, top):
    """Whether it is an ascending tuple of integers from 0 on below top, each once."""
    if not isinstance(told, tuple):
        return False
    least = 0
    for one in told:
        if not is_integer(one, least) or one >= top:
            return False
        least = one + 1
    return True
