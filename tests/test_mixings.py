"""mixings.py: promise [11], and of [14] what speaks of seeds."""

import random
import unittest

from keytellers.cores import core
from keytellers.errors import InvalidMixing, InvalidNumber, InvalidValues
from keytellers.lots import least_closed
from keytellers.mixings import book_of, is_mixing, least_peeled, least_seed, mark_of, row_of, seeded
from tests.helpers import Case, NO_INTEGERS, closed_lots

MIX = (3, 7, ((1, 0), (2, 1)), (3, 2))
LAST = (40, 1000, ((999, 999),) * 20, (999, 999))
WIDE = (40, 997, tuple((31 * key % 997, 17 * key + 5) for key in range(20)), (996, 1))
ONE_CELL = (1, 2, ((1, 1),), (0, 1))
# a is 0 and stays so by the even seeds: all numbers have the same row then.
STILL = (8, 2, ((0, 0),), (0, 0))
BIG = 10 ** 18 + 9
GOOD_MIXINGS = (
    MIX, LAST, WIDE, ONE_CELL, STILL, (1, 2, ((0, 0),), (0, 0)), (1, 2, ((1, 1), (1, 1)), (1, 1)),
    (41, 1009, ((1008, 0),) * 21, (0, 1008)), (100, 5, ((4, 4),), (4, 0)), (3, 1 << 61, (((1 << 61) - 1, 0),), (0, 7)),
)
NO_MIXINGS = (
    None, True, 0, 7, "", "3 7 : 1 0 : 3 2", b"mixing", {}, set(), [], (), (3,), MIX[:3], MIX + (0,), MIX + MIX,
    list(MIX), (3, 7, [(1, 0), (2, 1)], (3, 2)), (3, 7, ([1, 0], (2, 1)), (3, 2)), (3, 7, ((1, 0), [2, 1]), (3, 2)),
    (3, 7, ((1, 0), (2, 1)), [3, 2]), (3, 7, (), (3, 2)), (3, 7, ((1, 0), ()), (3, 2)), (3, 7, ((1, 0), (2, 1)), ()),
    (3, 7, (1, 0), (3, 2)), (3, 7, ((1, 0),), 3), (3, 7, 1, (3, 2)), (3, 7, None, (3, 2)), (3, 7, "10", (3, 2)),
    (3, 7, ("10",), (3, 2)), (3, 7, (None,), (3, 2)), (3, 7, {(1, 0): 1}, (3, 2)), (3, 7, {(1, 0)}, (3, 2)),
    (3, 7, ((1, 0),), None), (3, 7, ((1, 0),), "32"), (3, 7, ((1, 0),), {3, 2}), (3, 7, ((1, 0),), ((3, 2),)),
    (3, 7, ((1,),), (3, 2)), (3, 7, ((1, 0, 0),), (3, 2)), (3, 7, ((1, 0),), (3,)), (3, 7, ((1, 0),), (3, 2, 0)),
    (0, 7, ((1, 0),), (3, 2)), (-1, 7, ((1, 0),), (3, 2)), (3, 1, ((0, 0),), (0, 0)), (3, 0, ((0, 0),), (0, 0)),
    (3, -7, ((1, 0),), (3, 2)), (3, 7, ((7, 0),), (3, 2)), (3, 7, ((1, 7),), (3, 2)), (3, 7, ((1, 0), (2, 7)), (3, 2)),
    (3, 7, ((1, 0), (7, 1)), (3, 2)), (3, 7, ((-1, 0),), (3, 2)), (3, 7, ((1, -1),), (3, 2)),
    (3, 7, ((1, 0),), (7, 2)), (3, 7, ((1, 0),), (3, 7)), (3, 7, ((1, 0),), (-1, 2)), (3, 7, ((1, 0),), (3, -1)),
    (3, 2, ((0, 2),), (0, 0)), (3, 2, ((0, 0),), (2, 0)),
) + tuple(
    told for one in NO_INTEGERS for told in (
        (one, 7, ((1, 0),), (3, 2)), (3, one, ((0, 0),), (0, 0)), (3, 7, ((one, 0),), (3, 2)),
        (3, 7, ((1, one),), (3, 2)), (3, 7, ((1, 0), (one, 0)), (3, 2)), (3, 7, ((1, 0),), (one, 2)),
        (3, 7, ((1, 0),), (3, one)),
    )
)
NO_NUMBERS = (
    None, True, 0, 4, "", "456", b"456", {}, {4, 5}, {4: 5}, range(4, 7), [4, 4], (4, 5, 4), [0, 0], (BIG, 5, BIG),
    [-1], (4, -5), [4, None], (4, "5"), [True], (0, True), (False, 1), [4.0], [[4]], ((4,), 5), [4, [5]], ([4], [4]),
)


def row_by_counting(mixing, x):
    """The row of a number: each cell that some pair has."""
    m, p, pairs, _ = mixing
    return tuple(cell for cell in range(m) if any(divmod(a * x + b, p)[1] % m == cell for a, b in pairs))


def some_mixings(draw, how_many, most_cells, most_p, most_pairs):
    """Mixings as draw, a random.Random, has them."""
    found = []
    for _ in range(how_many):
        p = draw.randint(2, most_p)
        pairs = [(draw.randrange(p), draw.randrange(p)) for _ in range(draw.randint(1, most_pairs) + 1)]
        found.append((draw.randint(1, most_cells), p, tuple(pairs[1:]), pairs[0]))
    return found


def some_numbers(draw, many):
    """So many unlike numbers."""
    found = []
    while len(found) < many:
        x = draw.randrange(draw.choice([50, 1000, BIG]))
        if x not in found:
            found.append(x)
    return found


def core_by_taking_off(book):
    left = list(range(len(book[1])))
    while True:
        off = [key for key in left for cell in book[1][key] if sum(cell in book[1][other] for other in left) == 1]
        if not off:
            return tuple(left)
        left.remove(off[-1])


def least_by_counting(book):
    """The closed lot with the fewest keys, of these the first, or None."""
    return min(closed_lots(book), key=lambda lot: (len(lot), lot), default=None)


class IsMixing(Case):
    def test_mixings(self):
        for mixing in GOOD_MIXINGS:
            self.answers(True, is_mixing, told=mixing)
        for p in range(2, 1001):
            self.same(is_mixing((1, p, ((p - 1, 0), (0, p - 1)), (p - 1, p - 1))), True)
            for at in range(4):
                wrong = [p if at == other else p - 1 for other in range(4)]
                self.same(is_mixing((1, p, ((wrong[0], wrong[1]),), (wrong[2], wrong[3]))), False)

    def test_no_mixings(self):
        for told in NO_MIXINGS:
            with self.subTest(told=told):
                self.answers(False, is_mixing, told=told)

    def test_what_comes_is_a_mixing(self):
        for mixing in GOOD_MIXINGS:
            for s in (0, 1, 2, 20, 10 ** 9):
                self.same(is_mixing(seeded(mixing, s)), True)


class RowsAndMarks(Case):
    def test_against_the_words(self):
        draw = random.Random(15)
        for mixing in some_mixings(draw, 200, 40, 1000, 20) + some_mixings(draw, 50, 3, 12, 3) + list(GOOD_MIXINGS):
            for x in (0, 1, 2, draw.randrange(1000), draw.randrange(10 ** 18), 10 ** 18, draw.randrange(1 << 100)):
                self.same(row_of(mixing, x), row_by_counting(mixing, x))
                _, p, _, (a, b) = mixing
                for w in (1, 2, 3, 7, 8, 9, 10, 11, 60):
                    self.same(mark_of(mixing, w, x), divmod(a * x + b, p)[1] % 2 ** w)

    def test_rows(self):
        # 1 * 4 + 0 is 4, 2 * 4 + 1 is 9, modulo 7 they are 4 and 2, modulo 3 they are 1 and 2.
        self.answers((1, 2), row_of, mixing=MIX, x=4)
        self.answers((1, 2), row_of, mixing=MIX, x=5)
        # 6 and 6 modulo 7, so both pairs have cell 0.
        self.answers((0,), row_of, mixing=MIX, x=6)
        self.answers((0, 1), row_of, mixing=MIX, x=0)
        self.answers((0,), row_of, mixing=ONE_CELL, x=BIG)
        self.answers((0,), row_of, mixing=STILL, x=BIG)
        # 999 * 1 + 999 is 998 modulo 1000, and 38 modulo 40.
        self.answers((38,), row_of, mixing=LAST, x=1)
        # 3 * 10 ** 18 + 1 is 1 modulo 10.
        self.answers((1,), row_of, mixing=(5, 10, ((3, 1),), (0, 0)), x=10 ** 18)
        self.answers((1, 3), row_of, mixing=(5, 10, ((3, 1), (0, 8), (1, 6)), (0, 0)), x=10 ** 18)

    def test_marks(self):
        # 3 * 4 + 2 is 0 modulo 7; 3 * 1 + 2 is 5; 3 * 8 + 2 is 5.
        for w in range(1, 61):
            self.answers(0, mark_of, mixing=MIX, w=w, x=4)
        for w, mark in ((1, 1), (2, 1), (3, 5), (4, 5), (60, 5)):
            self.answers(mark, mark_of, mixing=MIX, w=w, x=1)
            self.answers(mark, mark_of, mixing=MIX, w=w, x=8)
        # 999 * 0 + 999 is 1111100111 as bits.
        for w, mark in ((1, 1), (3, 7), (4, 7), (5, 7), (6, 39), (9, 487), (10, 999), (11, 999), (60, 999)):
            self.answers(mark, mark_of, mixing=LAST, w=w, x=0)


class BookOf(Case):
    def test_books(self):
        for numbers in ([4, 5, 6], (4, 5, 6)):
            self.answers((3, ((1, 2), (1, 2), (0,))), book_of, mixing=MIX, numbers=numbers)
        self.answers((3, ((0,), (1, 2), (1, 2))), book_of, mixing=MIX, numbers=[6, 4, 5])
        self.answers((3, ()), book_of, mixing=MIX, numbers=())
        self.answers((40, ()), book_of, mixing=LAST, numbers=[])
        self.answers((1, ((0,), (0,))), book_of, mixing=ONE_CELL, numbers=(BIG, 0))

    def test_sequence(self):
        draw = random.Random(16)
        for mixing in some_mixings(draw, 30, 40, 1000, 20) + [WIDE]:
            numbers = some_numbers(draw, 40)
            wanted = (mixing[0], tuple(row_by_counting(mixing, x) for x in numbers))
            self.same(book_of(mixing, numbers), wanted)
            self.same(book_of(mixing, tuple(numbers)), wanted)


class Seeded(Case):
    def test_seeds(self):
        self.answers((3, 7, ((4, 1), (0, 2)), (3, 3)), seeded, mixing=MIX, s=1)
        # a is 5 a + 2, b is b + 4, modulo 7.
        self.answers((3, 7, ((0, 4), (5, 5)), (3, 6)), seeded, mixing=MIX, s=2)
        # 10 ** 9 is 6 modulo 7: a is 13 a + 6, b is b + 36, modulo 7.
        self.answers((3, 7, ((5, 1), (4, 2)), (3, 3)), seeded, mixing=MIX, s=10 ** 9)
        for mixing in GOOD_MIXINGS:
            self.answers(mixing, seeded, mixing=mixing, s=0)
        self.answers((1, 2, ((0, 0),), (1, 0)), seeded, mixing=ONE_CELL, s=1)

    def test_against_the_words(self):
        draw = random.Random(17)
        for m, p, pairs, mark in some_mixings(draw, 100, 40, 1000, 20):
            for s in (1, 2, 19, 20, draw.randrange(10 ** 9), 10 ** 9 + 1):
                told = seeded((m, p, pairs, mark), s)
                self.same(told[:2], (m, p))
                self.same(len(told[2]), len(pairs))
                for (a, b), (c, d) in zip((*pairs, mark), (*told[2], told[3])):
                    self.same((c, d), (divmod(a * (s + s + 1) + s, p)[1], divmod(b + s * s, p)[1]))


class Seeds(Case):
    """least_seed and least_peeled, whose bars are closed lots and cores."""

    def check_seed(self, function, bar_of, mixing, numbers, most):
        bars = []
        for s in range(most + 1):
            bar = bar_of((mixing[0], tuple(row_by_counting(seeded(mixing, s), x) for x in numbers)))
            if not bar:
                self.same(function(mixing, numbers, most), ("seed", s))
                return ("seed", s)
            bars.append(bar)
        self.same(function(mixing, numbers, most), ("none", tuple(bars)))
        return ("none", len(bars))

    def test_against_all_lots(self):
        draw = random.Random(18)
        seen = set()
        for many, how_many in ((0, 3), (1, 5), (2, 30), (3, 60), (5, 60), (8, 12)):
            for mixing in some_mixings(draw, how_many, many + 2, 60, 3):
                numbers = some_numbers(draw, many)
                most = draw.choice([0, 1, 2, 3, 20])
                told = draw.choice([list(numbers), tuple(numbers)])
                seen.add(("free", self.check_seed(least_seed, least_by_counting, mixing, told, most)))
                seen.add(("peeled", self.check_seed(least_peeled, core_by_taking_off, mixing, told, most)))
        for which in ("free", "peeled"):
            for wanted in (("seed", 0), ("seed", 1), ("seed", 2), ("none", 1), ("none", 21)):
                self.assertIn((which, wanted), seen)

    def test_twelve_numbers(self):
        draw = random.Random(19)
        for mixing in some_mixings(draw, 4, 14, 1000, 3):
            numbers = some_numbers(draw, 12)
            for function, bar_of in ((least_seed, least_closed), (least_peeled, core)):
                self.check_seed(function, bar_of, mixing, numbers, 20)

    def test_found_at_0_later_never(self):
        for numbers in ([4, 5, 6], (4, 5, 6)):
            self.answers(("seed", 2), least_seed, mixing=MIX, numbers=numbers, most=3)
            self.answers(("seed", 2), least_seed, mixing=MIX, numbers=numbers, most=2)
            self.answers(("none", ((0, 1), (0, 1))), least_seed, mixing=MIX, numbers=numbers, most=1)
            self.answers(("none", ((0, 1),)), least_seed, mixing=MIX, numbers=numbers, most=0)
        self.answers(("seed", 0), least_seed, mixing=MIX, numbers=[6, 4], most=0)
        self.answers(("seed", 0), least_peeled, mixing=MIX, numbers=[6, 4], most=20)
        for function in (least_seed, least_peeled):
            self.answers(("none", ((0, 1),) * 21), function, mixing=ONE_CELL, numbers=[0, BIG], most=20)
            self.answers(("seed", 0), function, mixing=ONE_CELL, numbers=(BIG,), most=20)
            self.answers(("seed", 0), function, mixing=MIX, numbers=(), most=0)
            self.answers(("seed", 0), function, mixing=MIX, numbers=[], most=20)
            # The numbers 0 and 1 have the row (0,) by the seed 0, and (1,) and (0,) by the seed 1.
            self.answers(("none", ((0, 1),)), function, mixing=STILL, numbers=[0, 1], most=0)
            self.answers(("seed", 1), function, mixing=STILL, numbers=[0, 1], most=20)
            # All even numbers are alike modulo 2, whatever the seed.
            self.answers(("none", ((0, 1),) * 3), function, mixing=STILL, numbers=[0, 2], most=2)

    def test_bars_that_are_unlike(self):
        # Modulo 2 the rows are those of x by even seeds, and (1,) for all by odd ones.
        mixing = (2, 2, ((1, 0),), (0, 0))
        bars, cores = ((1, 2), (0, 1), (1, 2)), ((1, 2), (0, 1, 2), (1, 2))
        self.answers(("none", bars), least_seed, mixing=mixing, numbers=[3, 4, 6], most=2)
        self.answers(("none", cores), least_peeled, mixing=mixing, numbers=[3, 4, 6], most=2)
        self.answers(("none", ((0, 3),)), least_seed, mixing=mixing, numbers=[3, 4, 6, 1], most=0)
        self.answers(("none", ((0, 1, 2, 3),)), least_peeled, mixing=mixing, numbers=[3, 4, 6, 1], most=0)
        # The rows (0, 1), (0, 1, 2) and (0, 2) are free, but no key of theirs can be taken off.
        mixing = (3, 3, ((0, 0), (1, 0), (1, 1)), (0, 0))
        self.answers(("seed", 0), least_seed, mixing=mixing, numbers=(0, 1, 2), most=3)
        self.answers(("none", ((0, 1, 2),) * 4), least_peeled, mixing=mixing, numbers=(0, 1, 2), most=3)


class Wrong(Case):
    def test_mixings(self):
        for function, more in (
            (row_of, {"x": None}), (mark_of, {"w": None, "x": None}), (book_of, {"numbers": None}),
            (seeded, {"s": None}), (least_seed, {"numbers": None, "most": None}),
            (least_peeled, {"numbers": None, "most": None}), (book_of, {"numbers": ()}), (row_of, {"x": 0}),
        ):
            self.fails_with_each(InvalidMixing, "mixing", NO_MIXINGS, function, mixing=None, **more)

    def test_integers(self):
        wrong = NO_INTEGERS + (-1, -BIG)
        self.fails_with_each(InvalidNumber, "x", wrong, row_of, mixing=MIX, x=None)
        self.fails_with_each(InvalidNumber, "x", wrong, mark_of, mixing=MIX, w=1, x=None)
        self.fails_with_each(InvalidNumber, "s", wrong, seeded, mixing=MIX, s=None)
        for x in (0, -1, None):
            self.fails_with_each(InvalidNumber, "w", wrong + (0,), mark_of, mixing=MIX, w=None, x=x)
        for function in (least_seed, least_peeled):
            for numbers in ([4, 5], [], None, [4, 4], (-1,)):
                self.fails_with_each(InvalidNumber, "most", wrong, function, mixing=MIX, numbers=numbers, most=None)

    def test_numbers(self):
        self.fails_with_each(InvalidValues, "numbers", NO_NUMBERS, book_of, mixing=MIX, numbers=None)
        for function in (least_seed, least_peeled):
            for most in (0, 20):
                self.fails_with_each(InvalidValues, "numbers", NO_NUMBERS, function, mixing=MIX, numbers=None,
                                     most=most)


if __name__ == "__main__":
    unittest.main()
