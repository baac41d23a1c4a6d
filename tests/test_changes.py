"""changes.py: what [14] says of changes."""

import itertools
import random
import unittest

from keytellers.changes import changed, fewest, is_enough
from keytellers.errors import InvalidBook, InvalidCell, InvalidTable, InvalidValues
from keytellers.tables import is_told, settle, values_of
from tests.helpers import Case, NO_INTEGERS, books_up_to, some_books, told_by, wrong_tuples
from tests.test_books import NO_BOOKS, RING

ROW = (3, ((0, 1), (1, 2)))
TOP = (1 << 60) - 1
EVERY_10 = tuple(range(10))


def lots_of_cells(m):
    """All ascending tuples of cells, the shortest ones first, those of one length as tuples compare."""
    return [cells for many in range(m + 1) for cells in itertools.combinations(range(m), many)]


def tables_by_cells(table, telling):
    """{cells: the tables among some ones, as they come, that are as this one at all other cells}."""
    found = {}
    for cells in lots_of_cells(len(table)):
        others = [cell for cell in range(len(table)) if cell not in cells]
        found[cells] = [one for one in telling if all(one[cell] == table[cell] for cell in others)]
    return found


class AgainstAllTables(Case):
    """All answers for small books, beside those from trying all tables and all lots of cells."""

    def check(self, book, w, table, values, by_values):
        telling = by_values.get(values, [])
        by_cells = tables_by_cells(table, telling)
        wanted = next(((cells, tables[0]) for cells, tables in by_cells.items() if tables), None)
        with self.subTest(book=book, table=table, values=values):
            self.same(fewest(book, table, values), wanted)
            for cells, tables in by_cells.items():
                self.same(is_enough(book, table, values, cells), tables != [])
            self.assertEqual(wanted is None, settle(book, values)[0] == "lot")
            if wanted is not None:
                self.same(changed(table, wanted[1]), wanted[0])

    def check_book(self, book, w, draw, how_many):
        words = range(1 << w)
        by_values = {}
        for table in itertools.product(words, repeat=book[0]):
            by_values.setdefault(told_by(book, table), []).append(table)
        for _ in range(how_many):
            table = tuple(draw.choice(words) for _ in range(book[0]))
            values = tuple(draw.choice(words) for _ in book[1])
            self.check(book, w, table, values, by_values)
            self.check(book, w, table, draw.choice(list(by_values)), by_values)

    def test_words_of_one_bit(self):
        draw = random.Random(41)
        for book in books_up_to(1, 3) + books_up_to(2, 3) + books_up_to(3, 3)[::3] + some_books(draw, 60, 6, 5, 4):
            self.check_book(book, 1, draw, 4)

    def test_words_of_more_bits(self):
        draw = random.Random(42)
        for book in books_up_to(2, 2) + books_up_to(3, 2)[::4] + some_books(draw, 40, 5, 4, 3):
            self.check_book(book, 2, draw, 4)
        for book in [ROW, RING] + some_books(draw, 5, 4, 3, 3):
            self.check_book(book, 3, draw, 4)


class Fewest(Case):
    def test_told_already(self):
        self.answers(((), (4, 1, 0)), fewest, book=ROW, table=(4, 1, 0), values=(5, 1))
        self.answers(((), (7,)), fewest, book=(1, ()), table=(7,), values=())
        self.answers(((), (TOP, 0, TOP)), fewest, book=RING, table=(TOP, 0, TOP), values=(TOP, TOP, 0))
        self.answers(((), EVERY_10), fewest, book=(10, ()), table=EVERY_10, values=())

    def test_no_table(self):
        self.answers(None, fewest, book=RING, table=(0, 0, 0), values=(1, 0, 0))
        self.answers(None, fewest, book=(1, ((0,), (0,))), table=(5,), values=(5, 4))
        alike = (10, (EVERY_10,) * 40)
        self.answers(None, fewest, book=alike, table=EVERY_10, values=(1,) * 39 + (0,))

    def test_the_first_of_the_fewest(self):
        self.answers(((2,), (4, 1, 1)), fewest, book=ROW, table=(4, 1, 0), values=(5, 0))
        self.answers(((1,), (4, 0, 0)), fewest, book=ROW, table=(4, 1, 0), values=(4, 0))
        self.answers(((0,), (2, 0, 0)), fewest, book=(3, ((0, 1, 2),)), table=(1, 0, 0), values=(2,))
        self.answers(((0,), (1, 0, 0)), fewest, book=RING, table=(0, 0, 0), values=(1, 0, 1))
        # Each two cells are enough, so the first two.
        self.answers(((0, 1), (1, 2, 0)), fewest, book=RING, table=(0, 0, 0), values=(3, 2, 1))
        self.answers(((0, 2), (0, 7, 0)), fewest, book=(3, ((0,), (2,))), table=(4, 7, TOP), values=(0, 0))

    def test_ten_cells(self):
        self.answers((EVERY_10, (0,) * 10), fewest, book=(10, tuple((cell,) for cell in range(10))),
                     table=tuple(range(1, 11)), values=(0,) * 10)
        self.answers(((0,), (TOP,) + (0,) * 9), fewest, book=(10, (EVERY_10,) * 40), table=(0,) * 10, values=(TOP,) * 40)
        draw = random.Random(43)
        seen = set()
        for book in some_books(draw, 30, 40, 10, 10) + some_books(draw, 30, 10, 10, 3):
            table = tuple(draw.getrandbits(60) for _ in range(book[0]))
            other = tuple(word if draw.random() < 0.6 else draw.getrandbits(60) for word in table)
            values = values_of(book, other)
            cells, found = fewest(book, table, values)
            seen.add(len(cells))
            self.same(values_of(book, found), values)
            self.same(changed(table, found), cells)
            self.same(is_enough(book, table, values, cells), True)
            self.same(is_enough(book, table, values, changed(table, other)), True)
            # No cells ahead of these are enough, be it that they are fewer or that they are lesser.
            for ahead in lots_of_cells(book[0]):
                if ahead == cells:
                    break
                self.same(is_enough(book, table, values, ahead), False)
        self.assertGreater(len(seen), 4)

    def test_random_values(self):
        draw = random.Random(44)
        outcomes = set()
        for book in some_books(draw, 60, 10, 10, 4):
            table = tuple(draw.getrandbits(2) for _ in range(book[0]))
            values = tuple(draw.getrandbits(2) for _ in book[1])
            answer = fewest(book, table, values)
            outcomes.add(answer is None)
            self.assertEqual(answer is None, settle(book, values)[0] == "lot")
            if answer is not None:
                self.same(is_told(book, answer[1], values), True)
        self.assertEqual(len(outcomes), 2)


class IsEnough(Case):
    def test_cells(self):
        for cells in ((2,), (0, 1), (0, 2), (1, 2), (0, 1, 2)):
            self.answers(True, is_enough, book=ROW, table=(4, 1, 0), values=(5, 0), cells=cells)
        for cells in ((), (0,), (1,)):
            self.answers(False, is_enough, book=ROW, table=(4, 1, 0), values=(5, 0), cells=cells)
        # Where the values are told already, words may be the same.
        for cells in lots_of_cells(3):
            self.answers(True, is_enough, book=ROW, table=(4, 1, 0), values=(5, 1), cells=cells)
            self.answers(False, is_enough, book=RING, table=(0, 0, 0), values=(1, 0, 0), cells=cells)

    def test_none_and_all(self):
        draw = random.Random(45)
        for book in some_books(draw, 80, 12, 10, 4):
            m, rows = book
            table = tuple(draw.getrandbits(1) for _ in range(m))
            values = tuple(draw.getrandbits(1) for _ in rows)
            for one in (values, values_of(book, table)):
                self.same(is_enough(book, table, one, ()), is_told(book, table, one))
                self.same(is_enough(book, table, one, tuple(range(m))), settle(book, one)[0] == "table")

    def test_no_keys(self):
        self.answers(True, is_enough, book=(2, ()), table=(1, 2), values=(), cells=())
        self.answers(True, is_enough, book=(2, ()), table=(1, 2), values=(), cells=(1,))


class Changed(Case):
    def test_tables(self):
        self.answers((1,), changed, one=(1, 2), other=(1, 3))
        self.answers((), changed, one=(1, 2), other=(1, 2))
        self.answers((0, 1), changed, one=(1, 2), other=(2, 1))
        self.answers((), changed, one=(0,), other=(0,))
        self.answers((0,), changed, one=(0,), other=(TOP,))
        self.answers((0, 2), changed, one=(TOP, 5, 0), other=(0, 5, 1 << 100))
        self.answers(tuple(range(40)), changed, one=(0,) * 40, other=(1,) * 40)
        self.answers((39,), changed, one=(0,) * 40, other=(0,) * 39 + (1,))


class Wrong(Case):
    def test_books(self):
        for table in (None, (), (0, 0, 0)):
            self.fails_with_each(InvalidBook, "book", NO_BOOKS, fewest, book=None, table=table, values=None)
            self.fails_with_each(InvalidBook, "book", NO_BOOKS, is_enough, book=None, table=table, values=(), cells=None)

    def test_tables(self):
        for values in ((5, 0), None, (1,)):
            self.fails_with_each(InvalidTable, "table", wrong_tuples(3), fewest, book=ROW, table=None, values=values)
            for cells in ((), None, (3,)):
                self.fails_with_each(InvalidTable, "table", wrong_tuples(3), is_enough, book=ROW, table=None,
                                     values=values, cells=cells)

    def test_values(self):
        table = (4, 1, 0)
        self.fails_with_each(InvalidValues, "values", wrong_tuples(2), fewest, book=ROW, table=table, values=None)
        for cells in ((), None, (3,)):
            self.fails_with_each(InvalidValues, "values", wrong_tuples(2), is_enough, book=ROW, table=table,
                                 values=None, cells=cells)
        self.fails_with_each(InvalidValues, "values", [(0,), [], None], fewest, book=(1, ()), table=(0,), values=None)

    def test_cells(self):
        wrong = [None, True, 0, 1, "", "01", b"01", [], [0], [0, 1], {}, {0}, range(2), (3,), (0, 3), (-1,), (-1, 0),
                 (0, 0), (1, 0), (0, 2, 1), (0, 1, 1), ((0,),), (0, (1,)), ([0],), (1 << 100,)]
        wrong += [told for one in NO_INTEGERS for told in ((one,), (0, one), (one, 2))]
        for values in ((5, 0), (5, 1)):
            self.fails_with_each(InvalidCell, "cells", wrong, is_enough, book=ROW, table=(4, 1, 0), values=values,
                                 cells=None)

    def test_changed(self):
        wrong = [None, True, 0, 12, "", "12", b"12", [], (), [1, 2], {1, 2}, {1: 2}, range(1, 3), (1, -2), (-1,),
                 ((1, 2),), ([1], 2)]
        wrong += [told for one in NO_INTEGERS for told in ((one,), (1, one), (one, 2))]
        for other in ((1, 2), (1,), None, [1, 2]):
            self.fails_with_each(InvalidTable, "one", wrong, changed, one=None, other=other)
        self.fails_with_each(InvalidTable, "other", wrong, changed, one=(1, 2), other=None)
        self.fails_with_each(InvalidTable, "other", [(1,), (1, 2, 3), (1, 2) * 20], changed, one=(1, 2), other=None)


if __name__ == "__main__":
    unittest.main()
