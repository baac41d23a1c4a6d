"""room.py: promise [13], and how many bits a table has."""

import fractions
import random
import unittest

from keytellers.errors import InvalidBook, InvalidNumber
from keytellers.room import bits_of, least_bits, share, ways
from tests.helpers import Case, NO_INTEGERS, books_up_to, some_books
from tests.test_books import NO_BOOKS, RING, WIDEST

ROW = (3, ((0, 1), (1, 2)))
NO_NUMBERS = NO_INTEGERS + (-1, -1000, -(10 ** 30))


def triangle(most):
    """The list of, for each k up to most, the ways to choose 0, 1, .. k of k, each the sum of the two above it."""
    rows = [[1]]
    for _ in range(most):
        above = rows[-1]
        rows.append([1, *[one + other for one, other in zip(above, above[1:])], 1])
    return rows


WAYS = triangle(1000)


def bits_by_trying(u, n, f):
    """The least b that promise [13] allows."""
    b = 0
    while 2 ** b * WAYS[n + f][n] < WAYS[u][n]:
        b += 1
    return b


class Books(Case):
    def test_bits_of(self):
        self.answers(24, bits_of, book=ROW, w=8)
        self.answers(1, bits_of, book=(1, ()), w=1)
        self.answers(2400, bits_of, book=WIDEST, w=60)
        self.answers(40000, bits_of, book=(40, ()), w=1000)
        for m, rows in books_up_to(2, 2) + books_up_to(3, 1):
            for w in (1, 2, 59, 60):
                self.same(bits_of((m, rows), w), m * w)

    def test_share(self):
        self.answers((2, 3), share, book=ROW, w=8)
        self.answers((1, 1), share, book=RING, w=1)
        self.answers((0, 1), share, book=(40, ()), w=60)
        self.answers((0, 1), share, book=(1, ()), w=1)
        self.answers((1, 1), share, book=WIDEST, w=60)
        self.answers((40, 1), share, book=(1, ((0,),) * 40), w=1)
        self.answers((3, 2), share, book=(2, ((0,), (0, 1), (1,))), w=3)
        self.answers((1, 40), share, book=(40, ((39,),)), w=1000)
        for n in range(41):
            for m in range(1, 41):
                wanted = fractions.Fraction(7 * n, 7 * m)
                self.same(share((m, ((m - 1,),) * n), 7), (wanted.numerator, wanted.denominator))

    def test_share_is_one_for_all_widths(self):
        for book in some_books(random.Random(20), 30, 40, 40, 40):
            for w in (1, 2, 3, 60, 1000):
                wanted = fractions.Fraction(len(book[1]) * w, book[0] * w)
                self.same(share(book, w), (wanted.numerator, wanted.denominator))

    def test_wrong(self):
        for function in (bits_of, share):
            self.fails_with_each(InvalidBook, "book", NO_BOOKS, function, book=None, w=None)
            self.fails_with_each(InvalidBook, "book", NO_BOOKS, function, book=None, w=1)
            self.fails_with_each(InvalidNumber, "w", NO_NUMBERS + (0,), function, book=ROW, w=None)
            self.fails_with_each(InvalidNumber, "w", NO_NUMBERS + (0,), function, book=(1, ()), w=None)


class Ways(Case):
    def test_all_of_small_numbers(self):
        for k in range(60):
            for n in range(70):
                self.same(ways(k, n), WAYS[k][n] if n <= k else 0)

    def test_up_to_1000(self):
        for k in (999, 1000):
            for n in range(k + 1):
                self.same(ways(k, n), WAYS[k][n])

    def test_edges(self):
        self.answers(10, ways, k=5, n=2)
        self.answers(1, ways, k=0, n=0)
        self.answers(0, ways, k=0, n=1)
        self.answers(0, ways, k=5, n=6)
        self.answers(0, ways, k=999, n=1000)
        self.answers(1, ways, k=1000, n=1000)
        self.answers(1, ways, k=1000, n=0)
        self.answers(1000, ways, k=1000, n=999)

    def test_wrong(self):
        for n in (0, -1, None):
            self.fails_with_each(InvalidNumber, "k", NO_NUMBERS, ways, k=None, n=n)
        self.fails_with_each(InvalidNumber, "n", NO_NUMBERS, ways, k=5, n=None)
        self.fails_with_each(InvalidNumber, "n", NO_NUMBERS, ways, k=0, n=None)


class LeastBits(Case):
    def test_all_of_small_numbers(self):
        for u in range(17):
            for n in range(u + 1):
                for f in range(20):
                    self.same(least_bits(u, n, f), bits_by_trying(u, n, f))

    def test_large_numbers(self):
        draw = random.Random(21)
        for _ in range(300):
            u = draw.randint(1, 1000)
            n = draw.randint(0, u)
            f = draw.randint(0, draw.choice([5, 1000 - n]))
            if n + f <= 1000:
                self.same(least_bits(u, n, f), bits_by_trying(u, n, f))

    def test_edges(self):
        self.answers(3, least_bits, u=8, n=1, f=0)
        self.answers(2, least_bits, u=8, n=1, f=1)
        # 9 filters are told apart by 4 bits, 8 and not fewer than 5 by 3.
        self.answers(4, least_bits, u=9, n=1, f=0)
        self.answers(3, least_bits, u=7, n=1, f=0)
        self.answers(3, least_bits, u=5, n=1, f=0)
        self.answers(2, least_bits, u=4, n=1, f=0)
        self.answers(1, least_bits, u=2, n=1, f=0)
        self.answers(0, least_bits, u=1, n=1, f=0)
        self.answers(0, least_bits, u=0, n=0, f=0)
        self.answers(0, least_bits, u=1000, n=0, f=0)
        self.answers(0, least_bits, u=1000, n=1000, f=0)
        self.answers(0, least_bits, u=1000, n=1000, f=1000)
        self.answers(0, least_bits, u=8, n=1, f=7)
        self.answers(1, least_bits, u=8, n=1, f=6)
        self.answers(0, least_bits, u=8, n=1, f=1000)
        # 2 ** 994 is less than the ways to choose 500 of 1000, and these are at most 2 ** 995.
        self.answers(995, least_bits, u=1000, n=500, f=0)
        self.answers(10, least_bits, u=1000, n=1, f=0)

    def test_wrong(self):
        self.fails_with_each(InvalidNumber, "u", NO_NUMBERS, least_bits, u=None, n=None, f=None)
        self.fails_with_each(InvalidNumber, "u", NO_NUMBERS, least_bits, u=None, n=1, f=0)
        for f in (0, -1, None):
            self.fails_with_each(InvalidNumber, "n", NO_NUMBERS + (9, 10, 1000), least_bits, u=8, n=None, f=f)
            self.fails_with_each(InvalidNumber, "n", NO_NUMBERS + (1,), least_bits, u=0, n=None, f=f)
        self.fails_with_each(InvalidNumber, "f", NO_NUMBERS, least_bits, u=8, n=8, f=None)
        self.fails_with_each(InvalidNumber, "f", NO_NUMBERS, least_bits, u=0, n=0, f=None)


if __name__ == "__main__":
    unittest.main()
