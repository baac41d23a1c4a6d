"""tables.py: promises [2] and [5], and of [14] what speaks of any values and of told values."""

import itertools
import random
import unittest

from keytellers.errors import InvalidBook, InvalidKey, InvalidNumber, InvalidTable, InvalidValues, NoTable
from keytellers.lots import is_free
from keytellers.tables import first_table, fitting, how_many, is_told, settle, told, values_of
from tests.helpers import (
    Case, NO_INTEGERS, books_up_to, closed_by_counting, closed_lots, some_books, summed, told_by, wrong_tuples,
)
from tests.test_books import NO_BOOKS, RING, WIDEST, wrong_keys
from tests.test_lots import large_books

TOP = (1 << 60) - 1
FREE = (3, ((0, 1), (1, 2), (2,)))
ALIKE = (2, ((0, 1), (1,), (0, 1), (0,), (0, 1)))
FAN = (40, tuple((key, 39) for key in range(39)))


def small_books():
    draw = random.Random(5)
    return books_up_to(1, 4) + books_up_to(2, 4) + books_up_to(3, 2) + some_books(draw, 60, 4, 3, 3)


def tables_by_values(book, w):
    """All tables of words of w bits, as tuples compare, by the values that they tell."""
    found = {}
    for table in itertools.product(range(1 << w), repeat=book[0]):
        found.setdefault(told_by(book, table), []).append(table)
    return found


def words_of(draw, many, w=60):
    return tuple(draw.getrandbits(w) for _ in range(many))


class AgainstAllTables(Case):
    """All answers for small books, beside those from trying all tables."""

    def check_values(self, book, values, tables, every):
        with self.subTest(book=book, values=values):
            if tables:
                self.same(first_table(book, values), tables[0])
                outcome, table = settle(book, values)
                self.same(outcome, "table")
                self.assertIn(table, tables)
                self.same(table, tuple(table))
            else:
                self.check_lot(book, values, settle(book, values))
                with self.assertRaises(NoTable) as caught:
                    first_table(book, values)
                self.check_lot(book, values, ("lot", caught.exception.value))
            for table in every:
                self.same(is_told(book, table, values), table in tables)

    def check_lot(self, book, values, answer):
        outcome, lot = answer
        self.same(outcome, "lot")
        self.same(lot, tuple(sorted(set(lot))))
        self.assertTrue(closed_by_counting(book, lot))
        self.assertNotEqual(summed([values[key] for key in lot]), 0)

    def check_book(self, book, w):
        found = tables_by_values(book, w)
        every = [table for tables in found.values() for table in tables]
        for table in every:
            self.same(values_of(book, table), told_by(book, table))
        values_too = list(itertools.product(range(1 << w), repeat=len(book[1])))
        for values in values_too:
            tables = found.get(values, [])
            self.check_values(book, values, tables, every)
            self.same(how_many(book, w, values), len(tables))
        # So a free book has tables for any values, another one not.
        self.same(is_free(book), len(found) == len(values_too))

    def test_words_of_one_bit(self):
        for book in small_books() + books_up_to(3, 3)[::3]:
            self.check_book(book, 1)

    def test_words_of_two_bits(self):
        for book in small_books():
            if len(book[1]) < 4:
                self.check_book(book, 2)

    def test_words_of_three_bits(self):
        for book in books_up_to(2, 2) + [RING, FREE]:
            found = tables_by_values(book, 3)
            for values, tables in found.items():
                self.same(first_table(book, values), tables[0])
                self.same(how_many(book, 3, values), len(tables))

    def test_values_that_no_table_tells_have_a_lot(self):
        draw = random.Random(6)
        for book in some_books(draw, 60, 9, 5, 4):
            closed = closed_lots(book)
            for _ in range(10):
                values = words_of(draw, len(book[1]), draw.choice([1, 1, 2, 60]))
                bad = [lot for lot in closed if summed([values[key] for key in lot]) != 0]
                outcome, found = settle(book, values)
                self.same(outcome, "lot" if bad else "table")
                if bad:
                    self.assertIn(found, bad)
                else:
                    self.same(told_by(book, found), values)


class HowMany(Case):
    def test_all_widths(self):
        """The tables whose words have w bits, counted for each bit by itself among all tables of one bit."""
        draw = random.Random(7)
        for book in [RING, FREE, ALIKE, (1, ()), (1, ((0,), (0,))), (4, ((0, 1, 2, 3),)), *some_books(draw, 9, 4, 4, 4)]:
            of_one_bit = {values: len(tables) for values, tables in tables_by_values(book, 1).items()}
            for w in range(1, 61):
                some = told_by(book, words_of(draw, book[0], w))
                for values in [(0,) * len(book[1]), some, words_of(draw, len(book[1]), w)]:
                    wanted = 1
                    for place in range(w):
                        wanted *= of_one_bit.get(tuple(value >> place & 1 for value in values), 0)
                    self.same(how_many(book, w, values), wanted)

    def test_edges(self):
        self.answers(8, how_many, book=RING, w=3, values=(3, 6, 5))
        self.answers(0, how_many, book=RING, w=1, values=(1, 0, 0))
        self.answers(1, how_many, book=FREE, w=60, values=(TOP, 0, 1))
        self.answers(1 << 2400, how_many, book=(40, ()), w=60, values=())
        self.answers(2, how_many, book=(1, ()), w=1, values=())
        self.answers(1 << 60 * 39, how_many, book=(40, (tuple(range(40)),)), w=60, values=(TOP,))
        self.answers(1 << 60, how_many, book=FAN, w=60, values=tuple(range(39)))
        self.answers(1, how_many, book=(40, tuple((key,) for key in range(40))), w=60, values=(TOP,) * 40)

    def test_values_that_are_no_words(self):
        for w in range(1, 61):
            self.same(how_many(FREE, w, ((1 << w) - 1,) * 3), 1)
            for values in (((1 << w), 0, 0), (0, 0, 1 << w), (0, (1 << w) + 1, 0), (TOP + 1,) * 3):
                self.fails(InvalidValues, values, how_many, book=FREE, w=w, values=values)
        # Even where no table tells the values.
        self.fails(InvalidValues, (2, 0, 0), how_many, book=RING, w=1, values=(2, 0, 0))
        self.same(how_many(RING, 2, (2, 0, 0)), 0)


class Fitting(Case):
    def taken(self, book, every, values):
        """The lot as the document says it, every being what all tables tell."""
        lot = []
        for key in range(len(book[1])):
            if any(all(one[other] == values[other] for other in (*lot, key)) for one in every):
                lot.append(key)
        return tuple(lot)

    def test_against_all_tables(self):
        for w in (1, 2):
            for book in small_books():
                if w * len(book[1]) <= 6:
                    every = list(tables_by_values(book, w))
                    for values in itertools.product(range(1 << w), repeat=len(book[1])):
                        self.same(fitting(book, values), self.taken(book, every, values))

    def test_longer_books(self):
        draw = random.Random(8)
        for book in some_books(draw, 40, 9, 4, 4):
            every = list(tables_by_values(book, 2))
            for _ in range(20):
                values = words_of(draw, len(book[1]), 2)
                self.same(fitting(book, values), self.taken(book, every, values))

    def test_rows_alike(self):
        self.answers((0, 1, 2, 3, 4), fitting, book=ALIKE, values=(3, 1, 3, 2, 3))
        self.answers((0, 1, 2, 3), fitting, book=ALIKE, values=(3, 1, 3, 2, 2))
        self.answers((0, 1, 4), fitting, book=ALIKE, values=(3, 1, 2, 3, 3))
        self.answers((0,), fitting, book=(1, ((0,),) * 3), values=(0, 1, TOP))
        self.answers((0, 2), fitting, book=(1, ((0,),) * 3), values=(TOP, 1, TOP))

    def test_edges(self):
        self.answers((), fitting, book=(4, ()), values=())
        self.answers((0, 1, 2), fitting, book=RING, values=(3, 6, 5))
        self.answers((0, 1), fitting, book=RING, values=(1, 0, 0))
        every = tuple(range(40))
        self.answers(every, fitting, book=WIDEST, values=every)
        self.answers(every, fitting, book=(40, (every,) * 40), values=(TOP,) * 40)
        self.answers((0, 39), fitting, book=(40, (every,) * 40), values=(TOP,) + (0,) * 38 + (TOP,))


class Edges(Case):
    def test_told(self):
        self.answers(3, told, book=RING, table=(1, 2, 4), key=0)
        self.answers(6, told, book=RING, table=(1, 2, 4), key=1)
        self.answers(5, told, book=RING, table=(1, 2, 4), key=2)
        self.answers(0, told, book=RING, table=(7, 7, 0), key=0)
        self.answers(TOP, told, book=(1, ((0,),)), table=(TOP,), key=0)
        self.answers(1 << 59, told, book=(2, ((0, 1),)), table=(TOP, TOP >> 1), key=0)
        words = tuple(1 << place for place in range(40))
        for key in range(40):
            self.same(told(WIDEST, words, key), (1 << key + 1) - 1)

    def test_values_of(self):
        self.answers((3, 6, 5), values_of, book=RING, table=(1, 2, 4))
        self.answers((0, 0, 0), values_of, book=RING, table=(0, 0, 0))
        self.answers((), values_of, book=(2, ()), table=(5, 6))
        self.answers((TOP, TOP - 1, 1, TOP, TOP - 1), values_of, book=(2, ((0,), (0, 1), (1,), (0,), (0, 1))),
                     table=(TOP, 1))
        self.answers((1,) * 40, values_of, book=(40, (tuple(range(40)),) * 40), table=(1,) + (TOP, 0, TOP) * 13)

    def test_settle(self):
        self.answers(("lot", (0, 1, 2)), settle, book=RING, values=(1, 0, 0))
        self.answers(("lot", (0, 1, 2)), settle, book=RING, values=(TOP, 1, 0))
        self.answers(("table", (5, 1)), settle, book=(2, ((0,), (1,))), values=(5, 1))
        self.answers(("table", (TOP,)), settle, book=(1, ((0,), (0,))), values=(TOP, TOP))
        self.answers(("lot", (0, 1)), settle, book=(1, ((0,), (0,))), values=(TOP, TOP - 1))
        outcome, table = settle((2, ()), ())
        self.same((outcome, len(table)), ("table", 2))

    def test_first_table(self):
        self.answers((0, 3, 5), first_table, book=RING, values=(3, 6, 5))
        self.answers((0, 0, 0), first_table, book=RING, values=(0, 0, 0))
        self.answers((0, 0), first_table, book=(2, ()), values=())
        self.answers((0,) * 39 + (TOP,), first_table, book=(40, (tuple(range(40)),)), values=(TOP,))
        self.answers((0,) + tuple(7 ^ key for key in range(8, 46)) + (7,), first_table, book=FAN,
                     values=(7,) + tuple(range(8, 46)))
        for values in ((1, 0, 0), (TOP, TOP, 1), (0, 0, 1 << 59)):
            with self.assertRaises(NoTable) as caught:
                first_table(RING, values)
            self.same(caught.exception.value, (0, 1, 2))

    def test_is_told(self):
        self.answers(True, is_told, book=RING, table=(1, 2, 4), values=(3, 6, 5))
        self.answers(True, is_told, book=RING, table=(0, 3, 5), values=(3, 6, 5))
        self.answers(False, is_told, book=RING, table=(1, 2, 4), values=(3, 6, 4))
        self.answers(False, is_told, book=RING, table=(1, 2, 4), values=(2, 6, 5))
        self.answers(False, is_told, book=RING, table=(1, 2, 4), values=(1, 0, 0))
        self.answers(True, is_told, book=(2, ()), table=(TOP, 0), values=())

    def test_bounds(self):
        """40 keys and cells, words of 60 bits: what a table tells is told again, by a table that is no later one."""
        draw = random.Random(9)
        for book in large_books():
            m, rows = book
            table = words_of(draw, m)
            values = values_of(book, table)
            self.same(values, told_by(book, table))
            first = first_table(book, values)
            self.same(told_by(book, first), values)
            self.assertLessEqual(first, table)
            self.same(first_table(book, told_by(book, first)), first)
            self.same(fitting(book, values), tuple(range(len(rows))))
            self.assertGreater(how_many(book, 60, values), 0)
            self.same(settle(book, values)[0], "table")
            others = words_of(draw, len(rows))
            outcome, found = settle(book, others)
            if outcome == "lot":
                self.assertTrue(closed_by_counting(book, found))
                self.assertNotEqual(summed([others[key] for key in found]), 0)
                self.same(how_many(book, 60, others), 0)
                lot = fitting(book, others)
                self.assertLess(len(lot), len(rows))
            else:
                self.same(told_by(book, found), others)


class Wrong(Case):
    def test_books(self):
        for function, more in (
            (told, {"table": None, "key": None}), (values_of, {"table": None}), (settle, {"values": None}),
            (first_table, {"values": None}), (how_many, {"w": None, "values": None}),
            (is_told, {"table": None, "values": None}), (fitting, {"values": None}),
        ):
            self.fails_with_each(InvalidBook, "book", NO_BOOKS, function, book=None, **more)

    def test_tables(self):
        for function, more in ((told, {"key": None}), (values_of, {}), (is_told, {"values": None})):
            self.fails_with_each(InvalidTable, "table", wrong_tuples(3), function, book=RING, table=None, **more)
            self.fails_with_each(InvalidTable, "table", wrong_tuples(40), function, book=WIDEST, table=None, **more)
        for function, more in ((told, {"key": 0}), (values_of, {}), (is_told, {"values": (3, 6, 5)})):
            self.fails_with_each(InvalidTable, "table", wrong_tuples(3), function, book=RING, table=None, **more)
        # As many words as keys, but not as cells.
        self.fails_with_each(InvalidTable, "table", [(1, 2), ()], values_of, book=(3, ((0,), (1,))), table=None)
        self.fails_with_each(InvalidTable, "table", [()], values_of, book=(3, ()), table=None)

    def test_keys(self):
        self.fails_with_each(InvalidKey, "key", wrong_keys(3), told, book=RING, table=(1, 2, 4), key=None)
        self.fails_with_each(InvalidKey, "key", wrong_keys(2), told, book=(3, ((0,), (1,))), table=(1, 2, 4), key=None)
        self.fails_with_each(InvalidKey, "key", wrong_keys(0), told, book=(3, ()), table=(1, 2, 4), key=None)

    def test_widths(self):
        wrong = NO_INTEGERS + (0, -1, -60)
        for values in ((3, 6, 5), None, (1,), [3, 6, 5]):
            self.fails_with_each(InvalidNumber, "w", wrong, how_many, book=RING, w=None, values=values)

    def test_values(self):
        wrong = wrong_tuples(3)
        for function, more in (
            (settle, {}), (first_table, {}), (how_many, {"w": 60}), (is_told, {"table": (1, 2, 4)}), (fitting, {}),
        ):
            self.fails_with_each(InvalidValues, "values", wrong, function, book=RING, **more, values=None)
            # As many values as cells, but not as keys.
            unlike, none = (3, ((0,), (1,))), (3, ())
            self.fails_with_each(InvalidValues, "values", [(1, 2, 3), (1,), ()], function, book=unlike, **more,
                                 values=None)
            self.fails_with_each(InvalidValues, "values", [(1,), [], None], function, book=none, **more, values=None)

    def test_value_that_is_named(self):
        with self.assertRaises(NoTable) as caught:
            first_table(book=(1, ((0,), (0,), (0,))), values=(1, 2, 2))
        self.assertIn(caught.exception.value, [(0, 1), (0, 2)])
        self.same(caught.exception.value, tuple(caught.exception.value))


if __name__ == "__main__":
    unittest.main()
