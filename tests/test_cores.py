"""cores.py: promise [7], and of [14] what speaks of cores and of tables along a road back."""

import itertools
import random
import unittest

from keytellers.cores import core, is_road, road, table_back
from keytellers.errors import InvalidBook, InvalidRoad, InvalidValues
from keytellers.lots import is_free
from keytellers.tables import is_told
from tests.helpers import Case, NO_INTEGERS, books_up_to, some_books, told_by, wrong_tuples
from tests.test_books import NO_BOOKS, RING, WIDEST
from tests.test_lots import large_books

TOP = (1 << 60) - 1
ROW = (3, ((0, 1), (1, 2)))
# The core of this one is a part: keys 1 and 3 go, 0 and 2 have rows alike.
PART = (4, ((0, 1), (1, 2), (0, 1), (2, 3)))
LINE = (40, tuple((key, key + 1) for key in range(39)) + ((39,),))
LINE_ROAD = tuple((key, key) for key in range(40))


def steps_from(book, left):
    """All (key, cell) with a key of those left and a cell of its row that is lone, ascending."""
    rows = book[1]
    return [(key, cell) for key in left for cell in rows[key] if sum(cell in rows[other] for other in left) == 1]


def roads_of(book):
    """All roads of a book, cut off ones too, each with the lot of the keys that it leaves."""
    found = [((), tuple(range(len(book[1]))))]
    for told, left in found:
        for step in steps_from(book, left):
            found.append(((*told, step), tuple(key for key in left if key != step[0])))
    return found


def first_road(book):
    """The road with each time the least key, and its least lone cell."""
    left = list(range(len(book[1])))
    told = []
    while steps_from(book, left):
        told.append(min(steps_from(book, left)))
        left.remove(told[-1][0])
    return tuple(told)


def small_books():
    draw = random.Random(10)
    return books_up_to(1, 3) + books_up_to(2, 3) + books_up_to(3, 2) + some_books(draw, 30, 4, 4, 3)


class AgainstAllRoads(Case):
    """All answers for small books, beside those from taking off the keys in all sequences."""

    def test_core(self):
        for book in small_books() + books_up_to(3, 3)[::3]:
            last = {left for _, left in roads_of(book) if not steps_from(book, left)}
            self.assertEqual(len(last), 1)
            self.same(core(book), last.pop())
            if core(book) == ():
                self.assertTrue(is_free(book))

    def test_road(self):
        draw = random.Random(11)
        for book in small_books() + some_books(draw, 60, 8, 8, 3):
            self.same(road(book), first_road(book))
            self.same(is_road(book, road(book)), True)
            self.same(core(book), tuple(sorted(set(range(len(book[1]))) - {key for key, _ in road(book)})))

    def test_is_road(self):
        for book in books_up_to(2, 2) + books_up_to(3, 2)[::4] + [RING, ROW]:
            m, rows = book
            roads = {told for told, _ in roads_of(book)}
            pairs = list(itertools.product(range(len(rows)), range(m)))
            for many in range(4):
                for told in itertools.product(pairs, repeat=many):
                    self.same(is_road(book, told), told in roads)

    def test_is_road_of_more_keys(self):
        """All roads, and what comes of each by changing one step, or exchanging two."""
        draw = random.Random(12)
        for book in some_books(draw, 25, 5, 4, 3):
            m, rows = book
            roads = {told for told, _ in roads_of(book)}
            for told in draw.sample(sorted(roads), min(20, len(roads))):
                self.same(is_road(book, told), True)
                for at, other in itertools.product(range(len(told)), repeat=2):
                    swapped = list(told)
                    swapped[at], swapped[other] = told[other], told[at]
                    self.same(is_road(book, tuple(swapped)), tuple(swapped) in roads)
                for at, key, cell in itertools.product(range(len(told)), range(len(rows)), range(m)):
                    changed = told[:at] + ((key, cell),) + told[at + 1:]
                    self.same(is_road(book, changed), changed in roads)
                for key, cell in itertools.product(range(len(rows)), range(m)):
                    self.same(is_road(book, (*told, (key, cell))), (*told, (key, cell)) in roads)

    def test_table_back(self):
        draw = random.Random(13)
        for book in small_books():
            m, rows = book
            whole = [told for told, left in roads_of(book) if left == ()]
            self.assertEqual(whole != [], core(book) == ())
            for told in whole:
                for w in (1, 2, 60):
                    values = tuple(draw.getrandbits(w) for _ in rows)
                    table = table_back(book, values, told)
                    self.same(table, tuple(table))
                    self.same(told_by(book, table), values)
                    self.assertTrue(is_told(book, table, values))
                    # The words of the road's cells are settled by the values once the others are 0.
                    others = set(range(m)) - {cell for _, cell in told}
                    self.assertEqual([table[cell] for cell in others], [0] * len(others))
            for told, left in roads_of(book):
                if left != ():
                    self.fails(InvalidRoad, told, table_back, book=book, values=(0,) * len(rows), told=told)


class Edges(Case):
    def test_core(self):
        self.answers((0, 1, 2), core, book=RING)
        self.answers((), core, book=ROW)
        self.answers((), core, book=(1, ()))
        self.answers((), core, book=(1, ((0,),)))
        self.answers((0, 1), core, book=(1, ((0,), (0,))))
        self.answers((0, 2), core, book=PART)
        self.answers((), core, book=(3, ((0, 1, 2), (1, 2), (2,))))
        self.answers((), core, book=WIDEST)
        self.answers((), core, book=LINE)
        self.answers(tuple(range(40)), core, book=(40, (tuple(range(40)),) * 40))
        self.answers(tuple(range(40)), core, book=(1, ((0,),) * 40))
        # Free, but no key can be taken off.
        self.answers((0, 1, 2), core, book=(3, ((0, 1), (0, 1, 2), (1, 2))))

    def test_road(self):
        self.answers((), road, book=RING)
        self.answers(((0, 0), (1, 1)), road, book=ROW)
        self.answers((), road, book=(2, ()))
        self.answers(((0, 0),), road, book=(3, ((0, 1, 2),)))
        self.answers(((1, 2), (3, 3)), road, book=(4, ((0, 1), (1, 2), (0, 1), (1, 3))))
        self.answers(((3, 3), (1, 2)), road, book=PART)
        self.answers(((2, 0), (1, 1), (0, 2)), road, book=(3, ((2,), (1, 2), (0, 1))))
        # Key 1 goes ahead of key 0, and key 0 ahead of key 2 then.
        self.answers(((1, 2), (0, 1), (2, 0), (3, 3)), road, book=(4, ((0, 1), (1, 2), (0, 3), (3,))))
        self.answers(LINE_ROAD, road, book=LINE)
        self.answers(tuple((key, key) for key in range(39, -1, -1)), road, book=WIDEST)

    def test_is_road(self):
        for told in ((), ((0, 0),), ((0, 0), (1, 1)), ((0, 0), (1, 2)), ((1, 2),), ((1, 2), (0, 0)), ((1, 2), (0, 1))):
            self.answers(True, is_road, book=ROW, told=told)
        for told in (
            ((1, 1),), ((0, 1),), ((0, 2),), ((1, 0),), ((0, 0), (0, 0)), ((0, 0), (0, 1)), ((0, 1), (1, 2)),
            ((1, 1), (0, 0)), ((0, 0), (1, 0)), ((0, 0), (1, 1), (0, 1)), ((0, 0), (1, 1), (1, 2)),
        ):
            self.answers(False, is_road, book=ROW, told=told)
        self.answers(True, is_road, book=RING, told=())
        self.answers(False, is_road, book=RING, told=((0, 0),))
        self.answers(True, is_road, book=(1, ()), told=())
        self.answers(True, is_road, book=PART, told=((3, 3), (1, 2)))
        self.answers(True, is_road, book=PART, told=((3, 3),))
        self.answers(False, is_road, book=PART, told=((1, 2), (3, 3)))
        self.answers(False, is_road, book=PART, told=((3, 3), (1, 2), (0, 0)))

    def test_table_back(self):
        self.answers((4, 1, 0), table_back, book=ROW, values=(5, 1), told=((0, 0), (1, 1)))
        self.answers((5, 0, 1), table_back, book=ROW, values=(5, 1), told=((0, 0), (1, 2)))
        self.answers((5, 0, 1), table_back, book=ROW, values=(5, 1), told=((1, 2), (0, 0)))
        self.answers((0, 5, 4), table_back, book=ROW, values=(5, 1), told=((1, 2), (0, 1)))
        self.answers((0, 0), table_back, book=(2, ()), values=(), told=())
        self.answers((0, TOP, 0), table_back, book=(3, ((0, 1, 2),)), values=(TOP,), told=((0, 1),))

    def test_bounds(self):
        draw = random.Random(14)
        values = tuple(draw.getrandbits(60) for _ in range(40))
        self.same(told_by(LINE, table_back(LINE, values, LINE_ROAD)), values)
        self.same(told_by(WIDEST, table_back(WIDEST, values, road(WIDEST))), values)
        for book in large_books():
            told = road(book)
            self.same(told, first_road(book))
            self.same(is_road(book, told), True)
            self.same(is_road(book, told[:-1]), True)
            left = set(range(len(book[1]))) - {key for key, _ in told}
            self.same(core(book), tuple(sorted(left)))
            values = tuple(draw.getrandbits(60) for _ in book[1])
            if left:
                self.fails(InvalidRoad, told, table_back, book=book, values=values, told=told)
            else:
                self.same(told_by(book, table_back(book, values, told)), values)


def no_pairs(n, m):
    """No tuples of pairs of a key and a cell, of n keys, from 1 on, and m cells, from 1 on."""
    wrong = [None, True, 0, "", "00", b"00", {}, set(), [], [(0, 0)], [[0, 0]], (0, 0), (0,), (None,), ("00",)]
    wrong += [([0, 0],), ((0, 0), [0, 0]), ((),), ((0,),), ((0, 0, 0),), ((0, 0), ()), (((0, 0),),), ({0: 0},)]
    wrong += [((n, 0),), ((0, m),), ((-1, 0),), ((0, -1),), ((0, 0), (n, m)), ((0, 0), (0, m)), ((n, 0), (0, 0))]
    for one in NO_INTEGERS:
        wrong += [((one, 0),), ((0, one),), ((0, 0), (0, one)), one]
    # Of these one is right: a tuple without pairs.
    return [one for one in wrong if one != ()]


class Wrong(Case):
    def test_books(self):
        for function, more in (
            (core, {}), (road, {}), (is_road, {"told": None}), (table_back, {"values": None, "told": None}),
            (is_road, {"told": ()}), (table_back, {"values": (), "told": ()}),
        ):
            self.fails_with_each(InvalidBook, "book", NO_BOOKS, function, book=None, **more)

    def test_values(self):
        for told in (None, (), ((0, 0), (1, 1)), ((0, 0), (1, 2))):
            self.fails_with_each(InvalidValues, "values", wrong_tuples(2), table_back, book=ROW, values=None, told=told)
        self.fails_with_each(InvalidValues, "values", [(0,), [], None], table_back, book=(2, ()), values=None, told=())

    def test_no_pairs(self):
        # There are more cells than keys in one of the books, fewer in the other.
        for book in (ROW, (2, ((0, 1), (0, 1), (1,)))):
            wrong = no_pairs(len(book[1]), book[0])
            self.fails_with_each(InvalidRoad, "told", wrong, is_road, book=book, told=None)
            self.fails_with_each(InvalidRoad, "told", wrong, table_back, book=book, values=(0,) * len(book[1]),
                                 told=None)
        self.fails_with_each(InvalidRoad, "told", [((0, 0),), [], None], is_road, book=(2, ()), told=None)

    def test_no_whole_roads(self):
        wrong = [(), ((0, 0),), ((1, 2),), ((1, 1),), ((1, 1), (0, 0)), ((0, 1), (1, 2)), ((0, 0), (0, 0)),
                 ((0, 0), (1, 0)), ((0, 0), (1, 1), (1, 2)), ((0, 0), (1, 1), (0, 0))]
        self.fails_with_each(InvalidRoad, "told", wrong, table_back, book=ROW, values=(5, 1), told=None)
        wrong = [(), ((3, 3), (1, 2)), ((3, 3), (1, 2), (0, 0), (2, 1))]
        self.fails_with_each(InvalidRoad, "told", wrong, table_back, book=PART, values=(0,) * 4, told=None)
        self.fails_with_each(InvalidRoad, "told", [((0, 0),)], table_back, book=(2, ()), values=(), told=None)


if __name__ == "__main__":
    unittest.main()
