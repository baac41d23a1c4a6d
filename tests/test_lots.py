"""lots.py: promise [6], and of [14] what speaks of closed and free lots."""

import itertools
import random
import unittest

from keytellers.books import book, part, with_key
from keytellers.errors import InvalidBook, InvalidKey, InvalidLot, NotFree
from keytellers.lots import closed_base, closing, free_lot, how_many_closed, is_closed, is_free, least_closed
from keytellers.words import added_all
from tests.helpers import Case, all_lots, books_up_to, closed_by_counting, closed_lots, is_free_among, some_books
from tests.test_books import NO_BOOKS, RING, WIDEST, wrong_keys, wrong_lots

FREE = (3, ((0, 1), (1, 2), (2,)))
PAIRS = (2, ((0,), (1,), (0,), (0, 1), (0,)))
EVERY_40 = tuple(range(40))


def sum_of_lots(lots):
    """The lot of the keys that stand in an odd number of the lots."""
    return tuple(key for key in range(64) if sum(key in lot for lot in lots) % 2 == 1)


def small_books():
    draw = random.Random(3)
    return (books_up_to(1, 4) + books_up_to(2, 4) + books_up_to(3, 3)
            + some_books(draw, 80, 7, 6, 3) + some_books(draw, 10, 10, 7, 7))


def large_books():
    """Books of up to 40 keys and 40 cells, free ones, ones with a few closed lots and ones with many."""
    draw = random.Random(4)
    ring = tuple(tuple(sorted((key, (key + 1) % 40))) for key in range(40))
    alike = (tuple(range(40)),) * 40
    return ([(40, ring), (40, ring[:39]), (40, alike), (1, ((0,),) * 40), WIDEST, (40, ()), (40, ((39,),))]
            + some_books(draw, 20, 40, 40, 3) + some_books(draw, 20, 40, 40, 40))


def ring_of(n):
    """A book whose one closed lot is that of all n keys."""
    return book(n, [(key, (key + 1) % n) for key in range(n)])


class AgainstAllLots(Case):
    """All answers for small books, beside those from trying all lots."""

    def test_is_closed(self):
        for told in small_books():
            for lot in all_lots(len(told[1]))[:128]:
                self.same(is_closed(told, lot), closed_by_counting(told, lot))

    def test_lots_of_the_book(self):
        for told in small_books():
            closed = closed_lots(told)
            lots = all_lots(len(told[1]))
            free = [lot for lot in lots if is_free_among(closed, lot)]
            most = max(len(lot) for lot in free)
            first = [lot for lot in free if len(lot) == most][0]
            with self.subTest(told=told):
                self.same(is_free(told), closed == [])
                self.same(free_lot(told), first)
                self.same(how_many_closed(told), len(closed))
                others = [key for key in range(len(told[1])) if key not in first]
                base = [[lot for lot in closed if set(lot) <= {*first, key}] for key in others]
                self.assertTrue(all(len(lots) == 1 for lots in base))
                self.same(closed_base(told), sorted(lots[0] for lots in base))
                self.same(least_closed(told), min(closed, key=lambda lot: (len(lot), lot)) if closed else None)

    def test_closing(self):
        for told in small_books()[::5]:
            closed = closed_lots(told)
            for lot in all_lots(len(told[1]))[:64]:
                for key in range(len(told[1])):
                    self.check_closing(told, closed, lot, key)

    def check_closing(self, told, closed, lot, key):
        if not is_free_among(closed, lot):
            self.fails(NotFree, lot, closing, book=told, lot=lot, key=key)
        elif key in lot:
            self.fails(InvalidKey, key, closing, book=told, lot=lot, key=key)
        else:
            wanted = [one for one in closed if set(one) <= {*lot, key}]
            self.assertLessEqual(len(wanted), 1)
            self.answers(wanted[0] if wanted else None, closing, book=told, lot=lot, key=key)


class Ordinary(Case):
    """Each function by position and by name, again and again, with arguments left as they were."""

    def test_is_closed(self):
        self.answers(True, is_closed, book=RING, lot=(0, 1, 2))
        self.answers(False, is_closed, book=RING, lot=(0, 1))
        self.answers(False, is_closed, book=RING, lot=())
        self.answers(False, is_closed, book=(3, ()), lot=())
        self.answers(True, is_closed, book=PAIRS, lot=(0, 2))
        self.answers(False, is_closed, book=PAIRS, lot=(0, 2, 4))
        self.answers(True, is_closed, book=PAIRS, lot=(0, 1, 3))
        self.answers(False, is_closed, book=PAIRS, lot=(0,))

    def test_is_free(self):
        self.answers(True, is_free, book=FREE)
        self.answers(False, is_free, book=RING)
        self.answers(False, is_free, book=PAIRS)
        self.answers(True, is_free, book=(1, ()))
        self.answers(True, is_free, book=(1, ((0,),)))
        self.answers(False, is_free, book=(1, ((0,), (0,))))

    def test_free_lot(self):
        self.answers((0, 1, 2), free_lot, book=FREE)
        self.answers((0, 1), free_lot, book=PAIRS)
        self.answers((0, 1, 3), free_lot, book=(3, ((0, 1), (1, 2), (0, 2), (2,))))
        self.answers((0, 2), free_lot, book=(2, ((0,), (0,), (1,))))
        self.answers((), free_lot, book=(1, ()))

    def test_closing(self):
        self.answers((0, 1, 2), closing, book=RING, lot=(1, 2), key=0)
        self.answers((0, 1, 2), closing, book=RING, lot=(0, 2), key=1)
        self.answers((0, 1, 3), closing, book=PAIRS, lot=(1, 3), key=0)
        self.answers((2, 4), closing, book=PAIRS, lot=(1, 4), key=2)
        self.answers(None, closing, book=PAIRS, lot=(1,), key=2)
        self.answers(None, closing, book=PAIRS, lot=(), key=0)
        self.answers(None, closing, book=FREE, lot=(0, 2), key=1)

    def test_how_many_closed(self):
        self.answers(0, how_many_closed, book=FREE)
        self.answers(0, how_many_closed, book=(1, ()))
        self.answers(1, how_many_closed, book=RING)
        self.answers(7, how_many_closed, book=PAIRS)
        self.answers(2 ** 39 - 1, how_many_closed, book=(1, ((0,),) * 40))

    def test_closed_base(self):
        self.answers([], closed_base, book=FREE)
        self.answers([], closed_base, book=(1, ()))
        self.answers([(0, 1, 2)], closed_base, book=RING)
        self.answers([(0, 1, 3), (0, 2), (0, 4)], closed_base, book=PAIRS)
        self.answers([(0, key) for key in range(1, 40)], closed_base, book=(40, (EVERY_40,) * 40))

    def test_least_closed(self):
        self.answers(None, least_closed, book=FREE)
        self.answers(None, least_closed, book=(1, ()))
        self.answers((0, 1, 2), least_closed, book=RING)
        self.answers((0, 2), least_closed, book=PAIRS)
        self.answers((2, 3), least_closed, book=(3, ((0, 1), (1, 2), (0, 2), (0, 2))))
        self.answers((0, 1, 3), least_closed, book=(4, ((0, 1), (1, 2), (3,), (0, 2), (0, 3))))

    def test_what_comes_may_be_passed_on(self):
        for told in (RING, PAIRS, FREE):
            kept = free_lot(told)
            self.same(is_free(part(told, kept)), True)
            for lot in closed_base(told):
                self.same(is_closed(told, lot), True)


class LargeBooks(Case):
    def test_free_lot(self):
        for told in large_books():
            kept = free_lot(told)
            self.assertTrue(is_free(part(told, kept)))
            for key in range(len(told[1])):
                if key not in kept:
                    # No lot ahead of it: the key makes a closed lot with kept ones below it.
                    below = tuple(other for other in kept if other < key)
                    self.assertTrue(closed_by_counting(told, closing(told, below, key)))

    def test_counts(self):
        for told in large_books():
            base = closed_base(told)
            many = len(told[1])
            self.same(how_many_closed(told), 2 ** (many - len(free_lot(told))) - 1)
            self.same(is_free(told), base == [])
            self.assertEqual(len(base), many - len(free_lot(told)))

    def test_closed_base(self):
        for told in large_books():
            kept = free_lot(told)
            wanted = [closing(told, kept, key) for key in range(len(told[1])) if key not in kept]
            self.answers(sorted(wanted), closed_base, book=told)
            for lot in wanted:
                self.assertTrue(closed_by_counting(told, lot))

    def test_sums_of_closed_lots(self):
        draw = random.Random(5)
        for told in large_books():
            base = closed_base(told)
            for _ in range(10):
                some = draw.sample(base, draw.randint(0, len(base)))
                self.same(is_closed(told, sum_of_lots(some)), some != [])

    def test_known_ones(self):
        ring = ring_of(40)
        self.answers(EVERY_40[:39], free_lot, book=ring)
        self.answers([EVERY_40], closed_base, book=ring)
        self.answers(1, how_many_closed, book=ring)
        self.answers(EVERY_40, closing, book=ring, lot=EVERY_40[1:], key=0)
        self.answers(True, is_closed, book=ring, lot=EVERY_40)
        self.answers(True, is_free, book=WIDEST)
        self.answers(EVERY_40, free_lot, book=WIDEST)
        self.answers((0,), free_lot, book=(1, ((0,),) * 40))

    def test_somewhat_beyond(self):
        ring = ring_of(50)
        self.answers([tuple(range(50))], closed_base, book=ring)
        self.answers(tuple(range(20)), least_closed, book=ring_of(20))
        self.answers((3, 19), least_closed, book=with_key(part(ring_of(20), tuple(range(19))), [3, 4]))


class LeastOfSixteen(Case):
    def slow(self, told):
        words = [sum(2 ** cell for cell in row) for row in told[1]]
        for many in range(1, len(words) + 1):
            for lot in itertools.combinations(range(len(words)), many):
                if added_all([words[key] for key in lot]) == 0:
                    return lot
        return None

    def test_some(self):
        draw = random.Random(6)
        for m, longest in ((2, 2), (4, 2), (8, 3), (12, 3), (14, 14), (15, 15), (20, 3), (40, 4)):
            for _ in range(3):
                rows = [draw.sample(range(m), draw.randint(1, longest)) for _ in range(16)]
                told = book(m, rows)
                self.same(least_closed(told), self.slow(told))

    def test_edges(self):
        self.answers(tuple(range(16)), least_closed, book=ring_of(16))
        self.answers(None, least_closed, book=part(ring_of(16), tuple(range(15))))
        self.answers((14, 15), least_closed, book=with_key(with_key(part(ring_of(16), tuple(range(14))), [15]), [15]))
        self.answers((0, 1), least_closed, book=(40, (EVERY_40,) * 16))
        self.answers((0, 1), least_closed, book=(1, ((0,),) * 16))
        self.answers(None, least_closed, book=part(WIDEST, tuple(range(16))))


class Tables(Case):
    """[14]: any values exactly if free; told values exactly if those of each closed lot add up to 0."""

    def values_told(self, told):
        m, rows = told
        tables = itertools.product(range(2), repeat=m)
        return {tuple(added_all([table[cell] for cell in row]) for row in rows) for table in tables}

    def test_values(self):
        for told in books_up_to(3, 3) + some_books(random.Random(7), 30, 6, 6, 6):
            n = len(told[1])
            reached = self.values_told(told)
            self.assertEqual(is_free(told), len(reached) == 2 ** n)
            self.assertEqual(len(reached), 2 ** len(free_lot(told)))
            base = closed_base(told)
            for values in itertools.product(range(2), repeat=n):
                add_up = all(added_all([values[key] for key in lot]) == 0 for lot in base)
                self.assertEqual(values in reached, add_up)


class Wrong(Case):
    def test_book(self):
        for function in (is_free, free_lot, how_many_closed, closed_base, least_closed):
            self.fails_with_each(InvalidBook, "book", NO_BOOKS, function)
        for lot in ((), (0,), None, [0]):
            self.fails_with_each(InvalidBook, "book", NO_BOOKS, is_closed, book=None, lot=lot)
            self.fails_with_each(InvalidBook, "book", NO_BOOKS, closing, book=None, lot=lot, key=-1)

    def test_lot(self):
        self.fails_with_each(InvalidLot, "lot", wrong_lots(3), is_closed, book=RING, lot=None)
        self.fails_with_each(InvalidLot, "lot", wrong_lots(40), is_closed, book=WIDEST, lot=None)
        self.fails_with_each(InvalidLot, "lot", [(0,), [], None], is_closed, book=(1, ()), lot=None)
        for key in (2, 0, -1, None, 3):
            self.fails_with_each(InvalidLot, "lot", wrong_lots(3), closing, book=RING, lot=None, key=key)

    def test_not_free(self):
        for lot in ((0, 2), (0, 1, 2), (0, 1, 3), (0, 1, 2, 3, 4)):
            for key in (4, 1, 0, -1, 5, None, True, [4]):
                self.fails(NotFree, lot, closing, book=PAIRS, lot=lot, key=key)
        lot = (0, 1, 2)
        self.fails(NotFree, lot, closing, book=RING, lot=lot, key=0)

    def test_key(self):
        for lot in ((), (0,), (0, 1)):
            self.fails_with_each(InvalidKey, "key", wrong_keys(3), closing, book=RING, lot=lot, key=None)
            self.fails_with_each(InvalidKey, "key", lot, closing, book=RING, lot=lot, key=None)
        self.fails_with_each(InvalidKey, "key", (0, -1, None), closing, book=(1, ()), lot=(), key=None)
        self.fails_with_each(InvalidKey, "key", EVERY_40 + (40,), closing, book=WIDEST, lot=EVERY_40, key=None)


if __name__ == "__main__":
    unittest.main()
