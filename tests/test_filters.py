"""filters.py: promise [12], and of [14] what speaks of filters."""

import random
import unittest

from keytellers.errors import InvalidFilter, InvalidMixing, InvalidNumber, InvalidValues, NoTable
from keytellers.filters import both, filter_of, how_many_in, is_filter, lets_in, wrongly
from keytellers.mixings import book_of, is_mixing, mark_of
from tests.helpers import Case, NO_INTEGERS, closed_by_counting, summed, wrong_tuples
from tests.test_mixings import (
    GOOD_MIXINGS, LAST, MIX, NO_MIXINGS, NO_NUMBERS, ONE_CELL, STILL, row_by_counting, some_mixings, some_numbers,
)

BIG = 10 ** 18
TOP = (1 << 60) - 1
# Rows that are alike and marks that are not: of p 7 with a 0 the row is that of b, and the mark that of x.
ALIKE = (2, 7, ((0, 1),), (1, 0))
MESH = (MIX, 3, (0, 0, 5))
# All numbers are let in, and none: the rows are all (0,), and the marks all 0.
EVERY = ((1, 2, ((0, 0),), (0, 0)), 1, (0,))
NONE = ((1, 2, ((0, 0),), (0, 0)), 1, (1,))


def is_in_by_counting(mesh, x):
    """Whether a filter lets a number in, as promise [12] says it."""
    mixing, w, table = mesh
    _, p, _, (a, b) = mixing
    return summed([table[cell] for cell in row_by_counting(mixing, x)]) == divmod(a * x + b, p)[1] % 2 ** w


def some_meshes(draw, how_many, most_cells, most_p, most_pairs):
    """Filters with tables that nobody has made, of few bits, so that some numbers come in."""
    found = []
    for mixing in some_mixings(draw, how_many, most_cells, most_p, most_pairs):
        w = draw.choice([1, 1, 2, 3])
        found.append((mixing, w, tuple(draw.getrandbits(w) for _ in range(mixing[0]))))
    return found


def no_filters():
    wrong = [None, True, 0, "", "filter", b"filter", {}, set(), [], (), (MIX,), MESH[:2], MESH + (0,), list(MESH), MIX]
    wrong += [(mixing, 3, (0, 0, 5)) for mixing in NO_MIXINGS]
    wrong += [(MIX, w, (0, 0, 0)) for w in NO_INTEGERS + (0, -1)]
    wrong += [(MIX, 3, table) for table in wrong_tuples(3)]
    wrong += [(MIX, 3, (8, 0, 0)), (MIX, 3, (0, 0, 8)), (MIX, 1, (0, 2, 0)), (MIX, 60, (0, 1 << 60, 0)),
              (MIX, 2, MESH[2]), (LAST, 3, (0, 0, 5)), (ONE_CELL, 1, ()), (MIX, 3, (0, 0, 5, 0)), ((MIX, 3), (0, 0, 5))]
    return wrong


class IsFilter(Case):
    def test_filters(self):
        for mixing in GOOD_MIXINGS:
            for w in (1, 2, 60):
                for word in (0, 1, (1 << w) - 1):
                    self.answers(True, is_filter, told=(mixing, w, (word,) * mixing[0]))
        self.answers(True, is_filter, told=MESH)

    def test_no_filters(self):
        for told in no_filters():
            with self.subTest(told=told):
                self.answers(False, is_filter, told=told)
        for w in range(1, 61):
            self.same(is_filter((MIX, w, (0, (1 << w) - 1, 0))), True)
            self.same(is_filter((MIX, w, (0, 1 << w, 0))), False)


class FilterOf(Case):
    def first_by_trying(self, mixing, w, numbers):
        """The first table of words of w bits that tells the marks, or None."""
        rows = [row_by_counting(mixing, x) for x in numbers]
        marks = [mark_of(mixing, w, x) for x in numbers]
        m = mixing[0]
        for at in range(1 << w * m):
            table = tuple(at >> w * (m - 1 - cell) & (1 << w) - 1 for cell in range(m))
            if all(summed([table[cell] for cell in row]) == mark for row, mark in zip(rows, marks)):
                return table
        return None

    def test_against_all_tables(self):
        draw = random.Random(31)
        seen = {True: 0, False: 0}
        for mixing in some_mixings(draw, 120, 4, 30, 3):
            numbers = some_numbers(draw, draw.randint(0, 5))
            w = draw.choice([1, 1, 2] if mixing[0] > 3 else [1, 2, 3])
            table = self.first_by_trying(mixing, w, numbers)
            seen[table is None] += 1
            for told in (numbers, tuple(numbers)):
                if table is None:
                    self.check_lot(mixing, w, told)
                else:
                    self.same(filter_of(mixing, w, told), (mixing, w, table))
        self.assertGreater(min(seen.values()), 20)

    def check_lot(self, mixing, w, numbers):
        for way in self.call(filter_of, {"mixing": mixing, "w": w, "numbers": numbers}):
            with self.assertRaises(NoTable) as caught:
                way()
            self.assertIs(type(caught.exception), NoTable)
            lot = caught.exception.value
            self.same(lot, tuple(sorted(set(lot))))
            self.assertTrue(closed_by_counting(book_of(mixing, numbers), lot))
            self.assertNotEqual(summed([mark_of(mixing, w, numbers[at]) for at in lot]), 0)

    def test_edges(self):
        for numbers in ([], ()):
            self.answers((MIX, 1, (0, 0, 0)), filter_of, mixing=MIX, w=1, numbers=numbers)
            self.answers((LAST, 60, (0,) * 40), filter_of, mixing=LAST, w=60, numbers=numbers)
        # The row of 5 is (1, 2), its mark 3 * 5 + 2, so 3 modulo 7; that of 6 is (0,), with 6.
        for numbers in ([5, 6], (6, 5)):
            self.answers((MIX, 3, (6, 0, 3)), filter_of, mixing=MIX, w=3, numbers=numbers)
            self.answers((MIX, 60, (6, 0, 3)), filter_of, mixing=MIX, w=60, numbers=numbers)
            self.answers((MIX, 1, (0, 0, 1)), filter_of, mixing=MIX, w=1, numbers=numbers)
            self.answers((MIX, 2, (2, 0, 3)), filter_of, mixing=MIX, w=2, numbers=numbers)

    def test_rows_alike(self):
        # The numbers 2 and 9 are alike modulo 7, 3 and 5 have marks that are alike in the least bit.
        self.answers((ALIKE, 3, (0, 2)), filter_of, mixing=ALIKE, w=3, numbers=[2, 9])
        self.answers((ALIKE, 1, (0, 1)), filter_of, mixing=ALIKE, w=1, numbers=(3, 5))
        self.answers((ALIKE, 1, (0, 1)), filter_of, mixing=ALIKE, w=1, numbers=(3, 5, 10, 1))
        self.check_lot(ALIKE, 2, (3, 5))
        self.check_lot(ALIKE, 1, [2, 9, 3])
        self.check_lot(ALIKE, 60, tuple(range(40)))

    def test_forty_numbers(self):
        draw = random.Random(32)
        made = 0
        for mixing in some_mixings(draw, 60, 40, 1000, 20) + some_mixings(draw, 30, 1, 1000, 1) + [STILL, ONE_CELL]:
            numbers = some_numbers(draw, 40)
            for w in (1, 2, 60):
                for many in (12, 25, 40):
                    made += self.check_filter(mixing, w, numbers[:many])
        self.assertGreater(made, 60)

    def check_filter(self, mixing, w, numbers):
        try:
            mesh = filter_of(mixing, w, numbers)
        except NoTable:
            self.check_lot(mixing, w, numbers)
            return 0
        self.same(is_filter(mesh), True)
        self.same(mesh[:2], (mixing, w))
        for x in numbers:
            # Whoever is of the lot is never denied, and those that are alike modulo p are not either.
            self.same(lets_in(mesh, x), True)
            self.same(lets_in(mesh, x + mixing[1] * BIG), True)
        return 1


class LetIn(Case):
    def test_lets_in(self):
        draw = random.Random(33)
        for mesh in some_meshes(draw, 150, 40, 1000, 6) + [MESH, EVERY, NONE]:
            for x in (0, 1, 2, 3, draw.randrange(1000), BIG, draw.randrange(BIG), draw.randrange(1 << 100)):
                self.same(lets_in(mesh, x), is_in_by_counting(mesh, x))
        # The row of 4 is (1, 2), its mark 0; that of 6 is (0,), its mark 6.
        self.answers(False, lets_in, mesh=MESH, x=4)
        self.answers(True, lets_in, mesh=(MIX, 3, (6, 5, 5)), x=4)
        self.answers(True, lets_in, mesh=(MIX, 3, (6, 5, 5)), x=6)
        self.answers(True, lets_in, mesh=(MIX, 3, (6, 5, 5)), x=6 + 7 * BIG)
        self.answers(True, lets_in, mesh=EVERY, x=0)
        self.answers(False, lets_in, mesh=NONE, x=0)

    def test_wrongly(self):
        draw = random.Random(34)
        for mesh in some_meshes(draw, 40, 40, 1000, 3):
            numbers = draw.sample(range(500), draw.randint(0, 40))
            for many in (0, 1, 2, 50, 399, 400):
                wanted = [x for x in range(many) if x not in numbers and is_in_by_counting(mesh, x)]
                self.same(wrongly(mesh, numbers, many), wanted)
                self.same(wrongly(mesh, tuple(numbers), many), wanted)
        for numbers in ([], (), [BIG]):
            self.answers([], wrongly, mesh=EVERY, numbers=numbers, many=0)
            self.answers([0], wrongly, mesh=EVERY, numbers=numbers, many=1)
            self.answers(list(range(400)), wrongly, mesh=EVERY, numbers=numbers, many=400)
            self.answers([], wrongly, mesh=NONE, numbers=numbers, many=400)
        for numbers in ([2, 0], (0, 2, 4, 7)):
            self.answers([1, 3], wrongly, mesh=EVERY, numbers=numbers, many=4)

    def test_how_many_in(self):
        draw = random.Random(35)
        for mesh in some_meshes(draw, 40, 20, 60, 3) + [MESH, EVERY, NONE]:
            p = mesh[0][1]
            inside = [is_in_by_counting(mesh, x) for x in range(5 * p + 3)]
            for many in (0, 1, 2, p - 1, p, p + 1, 2 * p - 1, 2 * p, 3 * p + p // 2, 5 * p, 5 * p + 3):
                self.same(how_many_in(mesh, many), sum(inside[:many]))
            # Whole rounds, and just less and more than these.
            for many in (BIG * p, BIG * p + 1, BIG * p + p - 1, BIG * p + p // 2):
                self.same(how_many_in(mesh, many), BIG * sum(inside[:p]) + sum(inside[:many - BIG * p]))
            many = draw.randrange(BIG)
            self.same(how_many_in(mesh, many), many // p * sum(inside[:p]) + sum(inside[:many % p]))
        for many in (0, 1, 2, 400, BIG, BIG + 1, 1 << 200):
            self.answers(many, how_many_in, mesh=EVERY, many=many)
            self.answers(0, how_many_in, mesh=NONE, many=many)

    def test_how_many_of_large_p(self):
        draw = random.Random(36)
        for mixing in some_mixings(draw, 4, 40, 4, 20):
            m, _, pairs, mark = mixing
            for p in (991, 997, 999, 1000):
                mesh = ((m, p, pairs, mark), 1, tuple(draw.getrandbits(1) for _ in range(m)))
                inside = [is_in_by_counting(mesh, x) for x in range(p)]
                self.same(how_many_in(mesh, p), sum(inside))
                self.same(how_many_in(mesh, BIG), BIG // p * sum(inside) + sum(inside[:BIG % p]))

    def test_what_is_wrong_and_how_many_agree(self):
        draw = random.Random(37)
        for mixing in some_mixings(draw, 20, 40, 1000, 3):
            numbers = draw.sample(range(400), 6)
            try:
                mesh = filter_of(mixing, 2, numbers)
            except NoTable:
                continue
            self.same(how_many_in(mesh, 400), len(wrongly(mesh, numbers, 400)) + 6)


class Both(Case):
    def check_both(self, one, other, most):
        inside = [is_in_by_counting(one, x) and is_in_by_counting(other, x) for x in range(most)]
        return [sum(inside[:many]) for many in range(most + 1)]

    def test_small(self):
        draw = random.Random(38)
        meshes = some_meshes(draw, 60, 6, 12, 2) + [MESH, EVERY, NONE]
        for one in meshes:
            other = draw.choice(meshes)
            whole = one[0][1] * other[0][1]
            counts = self.check_both(one, other, whole + 5)
            for many in range(0, whole + 5, draw.choice([1, 2, 3])):
                self.same(both(one, other, many), counts[many])
                self.same(both(other, one, many), counts[many])
            for many in (whole * BIG, whole * BIG + 1, whole * BIG + whole // 2, whole * BIG + whole - 1):
                self.same(both(one, other, many), BIG * counts[whole] + counts[many - whole * BIG])

    def test_p_with_a_common_divisor_and_without(self):
        draw = random.Random(39)
        for p, q in ((6, 4), (6, 9), (12, 12), (12, 8), (7, 7), (2, 12), (11, 12), (10, 15)):
            for _ in range(5):
                meshes = [((1, n, ((0, 0),), (draw.randrange(n), draw.randrange(n))), 1, (draw.getrandbits(1),))
                          for n in (p, q)]
                counts = self.check_both(*meshes, p * q)
                for many in range(p * q + 1):
                    self.same(both(*meshes, many), counts[many])
                self.same(both(*meshes, BIG * p * q), BIG * counts[-1])

    def test_edges(self):
        for many in (0, 1, 2, 3, 400, BIG, BIG + 1):
            self.answers(many, both, one=EVERY, other=EVERY, many=many)
            self.answers(0, both, one=EVERY, other=NONE, many=many)
            self.answers(0, both, one=NONE, other=EVERY, many=many)
            self.answers(how_many_in(MESH, many), both, one=MESH, other=MESH, many=many)
            self.answers(how_many_in(MESH, many), both, one=MESH, other=EVERY, many=many)
            self.answers(how_many_in(MESH, many), both, one=EVERY, other=MESH, many=many)

    def test_large_p(self):
        """With p and q without a common divisor each pair of rests comes just once in a round."""
        draw = random.Random(40)
        for p, q in ((997, 1000), (991, 997), (999, 1000)):
            meshes = [((3, n, tuple((draw.randrange(n), draw.randrange(n)) for _ in range(20)), (n - 2, n - 1)), 1,
                       (1, 0, 1)) for n in (p, q)]
            insides = [[is_in_by_counting(mesh, x) for x in range(mesh[0][1])] for mesh in meshes]
            each = sum(insides[0]) * sum(insides[1])
            self.same(both(*meshes, p * q), each)
            self.same(both(*meshes, BIG * p * q), BIG * each)
            for rest in (1, 999, 12345, p * q - 1):
                wanted = sum(insides[0][x % p] and insides[1][x % q] for x in range(rest))
                self.same(both(*meshes, rest), wanted)
                self.same(both(*meshes, BIG * p * q + rest), BIG * each + wanted)
        self.same(both(((1, 997, ((0, 0),), (0, 0)), 1, (0,)), ((1, 1000, ((0, 0),), (0, 0)), 60, (0,)), BIG), BIG)


class Wrong(Case):
    def test_filters(self):
        wrong = no_filters()
        for x in (0, -1, None):
            self.fails_with_each(InvalidFilter, "mesh", wrong, lets_in, mesh=None, x=x)
            self.fails_with_each(InvalidFilter, "mesh", wrong, how_many_in, mesh=None, many=x)
            self.fails_with_each(InvalidFilter, "mesh", wrong, wrongly, mesh=None, numbers=(), many=x)
            self.fails_with_each(InvalidFilter, "other", wrong, both, one=MESH, other=None, many=x)
        self.fails_with_each(InvalidFilter, "mesh", wrong, wrongly, mesh=None, numbers=None, many=0)
        for other in (MESH, None, [MESH]):
            self.fails_with_each(InvalidFilter, "one", wrong, both, one=None, other=other, many=-1)

    def test_mixings(self):
        for w, numbers in ((1, ()), (0, [4, 4]), (None, None)):
            self.fails_with_each(InvalidMixing, "mixing", NO_MIXINGS, filter_of, mixing=None, w=w, numbers=numbers)
        self.assertFalse(any(is_mixing(mixing) for mixing in NO_MIXINGS))

    def test_integers(self):
        wrong = NO_INTEGERS + (-1, -BIG)
        for numbers in ((), [4, 5], [4, 4], None):
            self.fails_with_each(InvalidNumber, "w", wrong + (0,), filter_of, mixing=MIX, w=None, numbers=numbers)
            self.fails_with_each(InvalidNumber, "many", wrong, wrongly, mesh=MESH, numbers=numbers, many=None)
        self.fails_with_each(InvalidNumber, "x", wrong, lets_in, mesh=MESH, x=None)
        self.fails_with_each(InvalidNumber, "many", wrong, how_many_in, mesh=MESH, many=None)
        self.fails_with_each(InvalidNumber, "many", wrong, both, one=MESH, other=EVERY, many=None)

    def test_numbers(self):
        for w in (1, 60):
            self.fails_with_each(InvalidValues, "numbers", NO_NUMBERS, filter_of, mixing=MIX, w=w, numbers=None)
            # Numbers that are twice there are ahead of closed lots of theirs.
            self.fails_with_each(InvalidValues, "numbers", [[3, 5, 3]], filter_of, mixing=ALIKE, w=w, numbers=None)
        for many in (0, 400):
            self.fails_with_each(InvalidValues, "numbers", NO_NUMBERS, wrongly, mesh=MESH, numbers=None, many=many)


if __name__ == "__main__":
    unittest.main()
