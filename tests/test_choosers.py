"""choosers.py: promise [10], and of [14] what speaks of choosers."""

import itertools
import random
import unittest

from keytellers.choosers import chooser, chosen, is_good, key_of, number_of
from keytellers.cores import core
from keytellers.errors import HasCore, InvalidBook, InvalidKey, InvalidNumber, InvalidTable, NotGood
from tests.helpers import Case, NO_INTEGERS, books_up_to, some_books, wrong_tuples
from tests.test_books import NO_BOOKS, RING, wrong_keys
from tests.test_cores import first_road

ROW = (3, ((0, 1), (1, 2)))
FOUR = (4, ((0, 1, 2, 3), (1, 2, 3), (2, 3), (3,)))
LINE = (40, tuple((key, key + 1) for key in range(39)) + ((39,),))
# Each key has four cells, the last of which is its own: they go off from the last one to the first.
STAIRS = (40, tuple(tuple(range(max(0, key - 3), key + 1)) for key in range(40)))
TOO_WIDE = (
    (5, ((0, 1, 2, 3, 4),)), (5, ((0,), (0, 1, 2, 3, 4))), (40, (tuple(range(40)),)), (6, ((0, 1, 2, 4, 5), (0, 1))),
)
BIG = 1 << 60


def chosen_by_counting(book, table):
    """The cells that are chosen, each counted off along its row, as promise [10] says it."""
    found = []
    for row in book[1]:
        at = 0
        for _ in range(sum(table[cell] for cell in row)):
            at = at + 1 if at + 1 < len(row) else 0
        found.append(row[at])
    return found


def chooser_by_trying(book):
    """The table that the road gives, the least word each time being found by trying."""
    table = [0] * book[0]
    for key, cell in reversed(first_road(book)):
        fits = []
        for word in range(4):
            table[cell] = word
            if chosen_by_counting(book, table)[key] == cell:
                fits.append(word)
        table[cell] = fits[0]
    return tuple(table)


def small_books():
    draw = random.Random(28)
    return books_up_to(1, 3) + books_up_to(2, 3)[::2] + books_up_to(3, 2)[::2] + some_books(draw, 12, 4, 4, 4)


class AgainstAllTables(Case):
    """All answers for every table of words below 4 of small books, beside those by counting along the rows."""

    def check_table(self, book, table):
        cells = chosen_by_counting(book, table)
        good = len(set(cells)) == len(cells)
        self.same([chosen(book, table, key) for key in range(len(cells))], cells)
        self.same(is_good(book, table), good)
        numbers = []
        for key, cell in enumerate(cells):
            if good:
                numbers.append(number_of(book, table, key))
                self.same(numbers[-1], sum(other < cell for other in cells))
                self.same(key_of(book, table, numbers[-1]), key)
            else:
                self.assertRaises(NotGood, number_of, book, table, key)
                self.assertRaises(NotGood, key_of, book, table, key)
        if good:
            self.assertEqual(sorted(numbers), list(range(len(cells))))

    def test_every_table(self):
        for book in small_books():
            with self.subTest(book=book):
                for table in itertools.product(range(4), repeat=book[0]):
                    self.check_table(book, table)

    def test_chooser(self):
        draw = random.Random(29)
        seen = {True: 0, False: 0}
        for book in small_books() + books_up_to(3, 3)[::5] + some_books(draw, 150, 9, 9, 4):
            left = core(book)
            seen[left == ()] += 1
            if left == ():
                table = chooser(book)
                self.same(table, chooser_by_trying(book))
                self.same(is_good(book, table), True)
                for key, cell in first_road(book):
                    self.same(chosen(book, table, key), cell)
            else:
                with self.assertRaises(HasCore) as caught:
                    chooser(book)
                self.same(caught.exception.value, left)
        self.assertGreater(min(seen.values()), 40)


class Edges(Case):
    def test_chooser(self):
        self.answers((0, 0, 0), chooser, book=ROW)
        self.answers((0,), chooser, book=(1, ()))
        self.answers((0, 0, 0, 0, 0), chooser, book=(5, ()))
        self.answers((0,), chooser, book=(1, ((0,),)))
        self.answers((0, 0, 0, 0), chooser, book=(4, ((0, 1, 2, 3),)))
        # Key 1 goes off first by its cell 0; the cell 1 is then key 0's: word 0. For key 1 the sum is 0: its cell 0.
        self.answers((0, 0), chooser, book=(2, ((1,), (0, 1))))
        # Key 0 goes off first by its cell 1, the second one of its row; its word is 1 as that of the cell 0 is 0.
        self.answers((0, 1), chooser, book=(2, ((0, 1), (0,))))
        # Key 2 has the cell 0. Key 1 has the cell 1 of (0, 1), so the word 1. Key 0 has the last cell of its row, at 2,
        # and the words 0 and 1 ahead of it, so the word 1.
        self.answers((0, 1, 1), chooser, book=(3, ((0, 1, 2), (0, 1), (0,))))
        self.answers((0,) * 40, chooser, book=LINE)

    def test_chosen(self):
        # The words add up to 1, 4 and 6 as numbers, not bit by bit.
        self.answers(1, chosen, book=ROW, table=(1, 0, 0), key=0)
        self.answers(0, chosen, book=ROW, table=(1, 3, 0), key=0)
        self.answers(1, chosen, book=ROW, table=(1, 3, 3), key=1)
        self.answers(2, chosen, book=ROW, table=(0, 2, 3), key=1)
        self.answers(0, chosen, book=(1, ((0,),)), table=(3,), key=0)
        for table, cell in (((0, 0, 0, 0), 0), ((3, 3, 3, 3), 0), ((3, 0, 0, 0), 3), ((3, 3, 0, 0), 2), ((3, 3, 3, 0), 1)):
            self.answers(cell, chosen, book=FOUR, table=table, key=0)
        self.answers(3, chosen, book=FOUR, table=(0, 2, 3, 3), key=1)
        self.answers(4, chosen, book=(40, ((1, 4, 39),)), table=(3,) * 39 + (1,), key=0)

    def test_is_good(self):
        self.answers(True, is_good, book=ROW, table=(0, 0, 0))
        self.answers(False, is_good, book=ROW, table=(1, 0, 0))
        self.answers(False, is_good, book=ROW, table=(0, 3, 3))
        self.answers(True, is_good, book=ROW, table=(0, 3, 2))
        self.answers(True, is_good, book=(1, ()), table=(3,))
        # Rows alike choose alike, whatever the table is.
        for table in itertools.product(range(4), repeat=2):
            self.answers(False, is_good, book=(2, ((0, 1), (0, 1))), table=table)
        # A book with a core may have good tables too.
        self.answers(True, is_good, book=RING, table=(0, 1, 0))

    def test_numbers(self):
        self.answers(1, number_of, book=ROW, table=(0, 0, 0), key=1)
        self.answers(0, number_of, book=ROW, table=(0, 0, 0), key=0)
        self.answers(0, key_of, book=ROW, table=(0, 0, 0), number=0)
        self.answers(1, key_of, book=ROW, table=(0, 0, 0), number=1)
        # The cells are 39 and 5, so the second key is the first by number.
        self.answers(1, number_of, book=(40, ((39,), (5,))), table=(0,) * 40, key=0)
        self.answers(0, number_of, book=(40, ((39,), (5,))), table=(0,) * 40, key=1)
        self.answers(1, key_of, book=(40, ((39,), (5,))), table=(0,) * 40, number=0)
        self.answers(0, key_of, book=(40, ((39,), (5,))), table=(0,) * 40, number=1)

    def test_bounds(self):
        draw = random.Random(30)
        sparse = [(40, tuple(tuple(sorted(draw.sample(range(40), draw.randint(1, 4)))) for _ in range(12)))
                  for _ in range(20)]
        backward = (40, STAIRS[1][::-1])
        seen = 0
        for book in [LINE, STAIRS, backward] + sparse:
            if core(book) != ():
                continue
            seen += 1
            table = chooser(book)
            self.same(table, chooser_by_trying(book))
            self.same(is_good(book, table), True)
            n = len(book[1])
            numbers = [number_of(book, table, key) for key in range(n)]
            self.assertEqual(sorted(numbers), list(range(n)))
            self.same([key_of(book, table, number) for number in numbers], list(range(n)))
        self.assertGreater(seen, 10)


class Wrong(Case):
    def check_books(self, wrong):
        self.fails_with_each(InvalidBook, "book", wrong, chooser)
        for table in (None, (), (4,)):
            self.fails_with_each(InvalidBook, "book", wrong, is_good, book=None, table=table)
            self.fails_with_each(InvalidBook, "book", wrong, chosen, book=None, table=table, key=-1)
            self.fails_with_each(InvalidBook, "book", wrong, number_of, book=None, table=table, key=None)
            self.fails_with_each(InvalidBook, "book", wrong, key_of, book=None, table=table, number=None)

    def test_books(self):
        self.check_books(NO_BOOKS)

    def test_rows_of_more_cells(self):
        self.check_books(TOO_WIDE)
        for book in TOO_WIDE:
            table = (0,) * book[0]
            self.fails(InvalidBook, book, is_good, book=book, table=table)
            self.fails(InvalidBook, book, chosen, book=book, table=table, key=0)
        # One with a core is no book of this file either.
        self.fails(InvalidBook, TOO_WIDE[0], chooser, book=TOO_WIDE[0])
        twice = (5, ((0, 1, 2, 3, 4),) * 2)
        self.fails(InvalidBook, twice, chooser, book=twice)

    def test_tables(self):
        wrong = wrong_tuples(3) + [(4, 0, 0), (0, 0, 4), (0, 5, 0), (0, 0, BIG), (1, 2, -1)]
        self.fails_with_each(InvalidTable, "table", wrong, is_good, book=ROW, table=None)
        for key in (0, -1, 2, None):
            self.fails_with_each(InvalidTable, "table", wrong, chosen, book=ROW, table=None, key=key)
            self.fails_with_each(InvalidTable, "table", wrong, number_of, book=ROW, table=None, key=key)
            self.fails_with_each(InvalidTable, "table", wrong, key_of, book=ROW, table=None, number=key)
        self.fails_with_each(InvalidTable, "table", [(4,), (), (0, 0), [0]], is_good, book=(1, ()), table=None)

    def test_keys(self):
        for table in ((0, 0, 0), (1, 0, 0), (3, 3, 3)):
            self.fails_with_each(InvalidKey, "key", wrong_keys(2), chosen, book=ROW, table=table, key=None)
            self.fails_with_each(InvalidKey, "key", wrong_keys(2), number_of, book=ROW, table=table, key=None)
        for function in (chosen, number_of):
            self.fails_with_each(InvalidKey, "key", (0, -1, None), function, book=(1, ()), table=(0,), key=None)

    def test_cores(self):
        for book in (RING, (1, ((0,), (0,))), (4, ((0, 1), (1, 2), (0, 1), (2, 3))), (3, ((0, 1), (0, 1, 2), (1, 2)))):
            for way in self.call(chooser, {"book": book}):
                with self.assertRaises(HasCore) as caught:
                    way()
                self.assertIs(type(caught.exception), HasCore)
                self.same(caught.exception.value, core(book))
                self.assertNotEqual(core(book), ())

    def test_no_good_tables(self):
        for table in ((1, 0, 0), (0, 3, 3), (0, 1, 1)):
            for key in (0, 1):
                self.fails(NotGood, table, number_of, book=ROW, table=table, key=key)
            for number in (0, 1, 2, -1, None, [0], BIG):
                self.fails(NotGood, table, key_of, book=ROW, table=table, number=number)

    def test_numbers(self):
        wrong = NO_INTEGERS + (-1, 2, 3, BIG, -BIG)
        self.fails_with_each(InvalidNumber, "number", wrong, key_of, book=ROW, table=(0, 0, 0), number=None)
        self.fails_with_each(InvalidNumber, "number", (0, 1, -1, None), key_of, book=(1, ()), table=(3,), number=None)


if __name__ == "__main__":
    unittest.main()
