"""books.py: promises [1], [2] and [4], and lots as [6] has them."""

import itertools
import random
import unittest

from keytellers.books import book, cells_of, is_book, keys_of, part, with_key, without_key
from keytellers.errors import InvalidBook, InvalidCell, InvalidKey, InvalidLot, InvalidRow
from tests.helpers import Case, NO_INTEGERS, all_lots, books_up_to, some_books

RING = (3, ((0, 1), (1, 2), (0, 2)))
WIDEST = (40, tuple(tuple(range(key % 40 + 1)) for key in range(40)))
NO_ROWS = (
    None, True, 0, "", "01", b"01", {}, {0, 1}, {0: 1}, range(2), [], (), [3], (3,), [-1], (0, -1), [0, 1, 2, 3],
    [0, 40], [True], (False, 1), [None], ["0"], [1.0], [[0]], ((0,),), [0, [1]], (0, (1,)), [1 << 100],
)
NO_BOOKS = (
    None, True, 0, 3, "", "book", b"book", [], {}, (), (3,), (3, (), ()), ((), 3),
    [3, ()], [3, ((0,),)], (3, []), (3, [(0,)]), (3, ([0],)), (3, ((0,), [1])), (3, None), (3, 0), (3, "01"),
    (3, ("01",)), (3, {}), (3, (0, 1)), (3, (None,)), (3, ((None,),)), (3, (("0",),)), (3, ((0.0,),)), (3, (((0,),),)),
    (0, ()), (-1, ()), (True, ()), (None, ()), ("3", ()), (3.0, ()), ((3,), ()), ([3], ()),
    (3, ((),)), (3, ((0,), ())), (3, ((3,),)), (3, ((0, 3),)), (3, ((-1,),)), (3, ((-1, 0),)),
    (3, ((0, 0),)), (3, ((1, 0),)), (3, ((0, 2, 1),)), (3, ((0, 1, 1),)), (3, ((True,),)), (3, ((False, 1),)),
    (3, ((0, True),)), (3, ((0, 1), (1, 0))), (2, ((0, 1), (1, 2))), (1, ((0,), (1,))), (0, ((0,),)),
)
GOOD_BOOKS = books_up_to(1, 3) + books_up_to(2, 3) + books_up_to(3, 2) + [RING, WIDEST, (40, ()), (41, ((40,),) * 41)]


def wrong_keys(n):
    return NO_INTEGERS + (-1, -n - 1, n, n + 1, 1 << 100)


def wrong_lots(n):
    """No lots of n keys, n being 3 at the least."""
    wrong = [None, True, 0, 1, "", "01", b"01", [], [0], [0, 1], {}, {0}, range(1), (0, 0), (1, 0), (0, 2, 1), (n,)]
    wrong += [(0, n), (-1,), (-1, 0), (n - 1, n), (n - 1, n - 1), (0, 1, 1), (True,), (0, True), (False,), (None,)]
    return wrong + [("0",), (0, "1"), ((0,),), ([0],), (0, (1,)), (0, None), (0.0,), (1, 2, 0)]


class IsBook(Case):
    def test_books(self):
        for told in GOOD_BOOKS:
            self.answers(True, is_book, told=told)

    def test_no_books(self):
        for told in NO_BOOKS:
            with self.subTest(told=told):
                self.answers(False, is_book, told=told)

    def test_what_comes_is_a_book(self):
        made = [book(2, [[1, 0]]), with_key(RING, [2]), without_key(RING, 1), part(RING, (0, 2)), part(RING, ())]
        for told in made:
            self.answers(True, is_book, told=told)


class Book(Case):
    def test_books_as_they_are(self):
        for m, rows in GOOD_BOOKS:
            self.answers((m, rows), book, m=m, rows=rows)
            self.answers((m, rows), book, m=m, rows=[list(row) for row in rows])
            self.answers((m, rows), book, m=m, rows=tuple(list(row) for row in rows))
            self.answers((m, rows), book, m=m, rows=list(rows))

    def test_any_sequence_and_some_twice(self):
        for row in itertools.product(range(3), repeat=4):
            wanted = tuple(cell for cell in range(3) if row.count(cell) > 0)
            self.answers((3, (wanted, wanted)), book, m=3, rows=[row, list(row)])

    def test_edges(self):
        self.answers((1, ()), book, m=1, rows=[])
        self.answers((1, ()), book, m=1, rows=())
        self.answers((1, ((0,), (0,))), book, m=1, rows=[[0], (0, 0, 0)])
        self.answers((40, (tuple(range(40)),) * 40), book, m=40, rows=[list(range(39, -1, -1))] * 40)
        self.answers((2, ((0, 1), (0, 1), (1,))), book, m=2, rows=([1, 0], (0, 1), [1]))

    def test_new_at_every_depth(self):
        row = [2, 0]
        rows = [row, [1]]
        told = book(3, rows)
        row.append(1)
        rows.append([0])
        self.same(told, (3, ((0, 2), (1,))))

    def test_wrong_m(self):
        for rows in ([], [[0]], [[-1]], [[]], [None]):
            self.fails_with_each(InvalidBook, "m", NO_INTEGERS + (0, -1, -(1 << 100)), book, m=None, rows=rows)

    def test_wrong_rows(self):
        for row in NO_ROWS:
            with self.subTest(row=row):
                self.fails(InvalidRow, row, book, m=3, rows=[row])
                self.fails(InvalidRow, row, book, m=3, rows=[[0, 1], (2,), row])
                self.fails(InvalidRow, row, book, m=3, rows=((0, 1), row, (2,)))

    def test_first_of_the_rows(self):
        first, second = [3, 0], [-1]
        self.fails(InvalidRow, first, book, m=3, rows=[[0], first, second])
        self.fails(InvalidRow, second, book, m=3, rows=[[0], second, first])
        self.fails(InvalidRow, first, book, m=3, rows=(first, None, second, ()))

    def test_cells_of_other_books(self):
        row = (1,)
        self.fails(InvalidRow, row, book, m=1, rows=[(0,), row])


class WithKey(Case):
    def test_rows(self):
        for m, rows in GOOD_BOOKS:
            last = [m - 1, 0, m - 1]
            wanted = (m, rows + (tuple(sorted({0, m - 1})),))
            self.answers(wanted, with_key, book=(m, rows), row=last)
            self.answers(wanted, with_key, book=(m, rows), row=tuple(last))

    def test_rows_alike(self):
        self.answers((3, RING[1] + ((0, 1),)), with_key, book=RING, row=[1, 0])

    def test_wrong(self):
        self.fails_with_each(InvalidBook, "book", NO_BOOKS, with_key, book=None, row=[0])
        self.fails_with_each(InvalidBook, "book", NO_BOOKS, with_key, book=None, row=[-1])
        self.fails_with_each(InvalidRow, "row", NO_ROWS, with_key, book=RING, row=None)


class WithoutKey(Case):
    def test_keys(self):
        for m, rows in GOOD_BOOKS:
            for key in range(len(rows)):
                wanted = tuple(row for at, row in enumerate(rows) if at != key)
                self.same(without_key((m, rows), key), (m, wanted))

    def test_edges(self):
        self.answers((3, ((0, 1), (1, 2))), without_key, book=RING, key=2)
        self.answers((3, ((0, 1), (0, 2))), without_key, book=RING, key=1)
        self.answers((2, ()), without_key, book=(2, ((0, 1),)), key=0)

    def test_wrong(self):
        self.fails_with_each(InvalidBook, "book", NO_BOOKS, without_key, book=None, key=0)
        self.fails_with_each(InvalidBook, "book", NO_BOOKS, without_key, book=None, key=-1)
        for told in (RING, WIDEST, (3, ())):
            self.fails_with_each(InvalidKey, "key", wrong_keys(len(told[1])), without_key, book=told, key=None)


class KeysOf(Case):
    def test_cells(self):
        for m, rows in GOOD_BOOKS:
            for cell in range(m):
                wanted = tuple(key for key in range(len(rows)) if rows[key].count(cell) > 0)
                self.same(keys_of((m, rows), cell), wanted)

    def test_edges(self):
        self.answers((), keys_of, book=(2, ()), cell=1)
        self.answers((), keys_of, book=(2, ((0,),)), cell=1)
        self.answers((0, 1), keys_of, book=(1, ((0,), (0,))), cell=0)
        self.answers(tuple(range(40)), keys_of, book=WIDEST, cell=0)
        self.answers((39,), keys_of, book=WIDEST, cell=39)

    def test_wrong(self):
        self.fails_with_each(InvalidBook, "book", NO_BOOKS, keys_of, book=None, cell=0)
        self.fails_with_each(InvalidBook, "book", NO_BOOKS, keys_of, book=None, cell=-1)
        self.fails_with_each(InvalidCell, "cell", wrong_keys(3), keys_of, book=(3, ((0,), (0,), (0,), (0,))), cell=None)
        self.fails_with_each(InvalidCell, "cell", wrong_keys(3), keys_of, book=(3, ()), cell=None)


class LotsOfBooks(Case):
    def test_all_lots(self):
        draw = random.Random(2)
        told_books = GOOD_BOOKS[:60] + some_books(draw, 40, 6, 8, 8)
        for m, rows in told_books:
            for lot in all_lots(len(rows)):
                picked = [rows[key] for key in lot]
                cells = tuple(cell for cell in range(m) if any(cell in row for row in picked))
                self.same(cells_of((m, rows), lot), cells)
                self.same(part((m, rows), lot), (m, tuple(picked)))

    def test_edges(self):
        every = tuple(range(40))
        self.answers((), cells_of, book=RING, lot=())
        self.answers((), cells_of, book=(1, ()), lot=())
        self.answers((0, 1, 2), cells_of, book=RING, lot=(0, 1, 2))
        self.answers(every, cells_of, book=WIDEST, lot=every)
        self.answers((1, 9, 33), cells_of, book=(40, ((33,), (9,), (1,))), lot=(0, 1, 2))
        self.answers((3, ()), part, book=RING, lot=())
        self.answers((1, ()), part, book=(1, ()), lot=())
        self.answers(RING, part, book=RING, lot=(0, 1, 2))
        self.answers((3, ((0, 1), (0, 2))), part, book=RING, lot=(0, 2))
        self.answers(WIDEST, part, book=WIDEST, lot=every)

    def test_wrong(self):
        for function in (cells_of, part):
            self.fails_with_each(InvalidBook, "book", NO_BOOKS, function, book=None, lot=())
            self.fails_with_each(InvalidBook, "book", NO_BOOKS, function, book=None, lot=(-1,))
            self.fails_with_each(InvalidLot, "lot", wrong_lots(3), function, book=RING, lot=None)
            self.fails_with_each(InvalidLot, "lot", wrong_lots(40), function, book=WIDEST, lot=None)
            self.fails_with_each(InvalidLot, "lot", [(0,), (1,), [], None], function, book=(3, ()), lot=None)


if __name__ == "__main__":
    unittest.main()
