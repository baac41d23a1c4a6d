"""What the tests share: calls in all ways, exact comparison, wrong things, and slow answers straight from the words."""

import copy
import itertools
import unittest

# No integer at all, whatever its bounds are.
NO_INTEGERS = (None, True, False, "1", "", b"1", 1.0, [1], (1,), (), [], {}, {1})


def exact(told):
    """A value with the kinds of all that is in it, so that 1, True and 1.0, or (1,) and [1], are unlike."""
    if isinstance(told, (list, tuple)):
        return (type(told).__name__, [exact(one) for one in told])
    return (type(told).__name__, told)


def wrong_tuples(n):
    """No tuples of n integers from 0 on, n being 2 at the least."""
    good = tuple(range(n))
    wrong = [None, True, 0, "", "0" * n, b"0" * n, {}, set(good), range(n), list(good), [0] * n]
    wrong += [good[1:], good + (0,), (), good + good, (good,), [good]]
    for one in NO_INTEGERS + (-1, -(1 << 60)):
        wrong += [(one,) + good[1:], good[:-1] + (one,)]
    return wrong


class Case(unittest.TestCase):
    def same(self, told, wanted):
        self.assertEqual(exact(told), exact(wanted))

    def call(self, function, arguments):
        """Yields a function for each way to pass the arguments, given by name in their sequence."""
        yield lambda: function(*arguments.values())
        yield lambda: function(**arguments)
        yield lambda: function(**dict(reversed(list(arguments.items()))))

    def answers(self, wanted, function, **arguments):
        """The call answers this in each way, and again, with arguments as they were and lists of its own."""
        kept = copy.deepcopy(arguments)
        lists = []
        for way in self.call(function, arguments):
            for _ in range(2):
                told = way()
                self.same(told, wanted)
                self.assertEqual(exact(list(arguments.values())), exact(list(kept.values())))
                if isinstance(told, list):
                    self.assertFalse(any(told is one for one in lists))
                    lists.append(told)
        for told in lists:
            told.append("spoilt")
        if lists:
            self.same(function(**arguments), wanted)

    def fails(self, error, value, function, **arguments):
        """The call raises just this error, with just this value, in each way, with arguments as they were."""
        kept = copy.deepcopy(arguments)
        for way in self.call(function, arguments):
            with self.assertRaises(error) as caught:
                way()
            self.assertIs(type(caught.exception), error)
            self.assertIs(caught.exception.value, value)
            self.assertEqual(exact(list(arguments.values())), exact(list(kept.values())))

    def fails_with_each(self, error, name, wrong, function, **arguments):
        """Each of the wrong things under the name makes the call raise the error with that thing."""
        for one in wrong:
            with self.subTest(function=function.__name__, name=name, wrong=one):
                self.fails(error, one, function, **{**arguments, name: one})


def summed(words):
    """The sum of words, each bit counted, as promise [3] says it."""
    widest = max([word.bit_length() for word in words], default=0)
    return sum(1 << place for place in range(widest) if sum(word >> place & 1 for word in words) % 2 == 1)


def told_by(book, table):
    """What a table tells of all keys, as promise [5] says it."""
    return tuple(summed([table[cell] for cell in row]) for row in book[1])


def books_up_to(m, n):
    """All books of m cells and at most n keys."""
    rows = [row for many in range(1, m + 1) for row in itertools.combinations(range(m), many)]
    return [(m, picked) for many in range(n + 1) for picked in itertools.product(rows, repeat=many)]


def all_lots(n):
    """All lots of n keys, as tuples compare."""
    return sorted(lot for many in range(n + 1) for lot in itertools.combinations(range(n), many))


def closed_by_counting(book, lot):
    """Whether a lot is closed, as promise [6] says it."""
    m, rows = book
    return len(lot) > 0 and all(sum(cell in rows[key] for key in lot) % 2 == 0 for cell in range(m))


def closed_lots(book):
    """All closed lots of a book, as tuples compare."""
    return [lot for lot in all_lots(len(book[1])) if closed_by_counting(book, lot)]


def is_free_among(closed, lot):
    """Whether no closed lot is part of a lot."""
    return not any(set(one) <= set(lot) for one in closed)


def seats_by_trying(book, lot):
    """All seats of a lot, as tuples compare, as promise [8] says them."""
    return [told for told in itertools.product(*[book[1][key] for key in lot]) if len(set(told)) == len(told)]


def some_books(draw, how_many, keys, cells, longest):
    """Books of up to so many keys and cells, rows of up to so many cells, as draw, a random.Random, has them."""
    found = []
    for _ in range(how_many):
        m = draw.randint(1, cells)
        n = draw.randint(0, keys)
        rows = [draw.sample(range(m), draw.randint(1, min(m, longest))) for _ in range(n)]
        found.append((m, tuple(tuple(sorted(row)) for row in rows)))
    return found
