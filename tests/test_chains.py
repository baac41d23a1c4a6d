"""chains.py: promise [9], and of [14] what speaks of chains."""

import itertools
import random
import unittest

from keytellers.chains import all_in, behind, chain, is_chain, is_placing, reached, taken_out
from keytellers.errors import InvalidBook, InvalidChain, InvalidKey, InvalidPlacing
from tests.helpers import Case, NO_INTEGERS, books_up_to, seats_by_trying, some_books
from tests.test_books import NO_BOOKS, RING, WIDEST, wrong_keys
from tests.test_cores import no_pairs
from tests.test_lots import large_books

FULL = (2, ((0, 1), (0,), (1,)))
# The keys 0 to 2 can each go over to the next cell; the last two keys have some of theirs.
FORK = (4, ((0, 1), (1, 2), (2, 3), (0, 1), (0, 1, 2)))
# All keys but the first one have the greater cell of their rows, and only cell 0 is left beside them.
LINE = (40, ((39,),) + tuple((key, key + 1) for key in range(39)))
LINE_PLACING = (None,) + tuple(range(1, 40))
LINE_CHAIN = ((0, 39),) + tuple((key, key - 1) for key in range(39, 0, -1))


def placings_of(book):
    """All placings of a book."""
    choices = [(None,) + row for row in book[1]]
    return [told for told in itertools.product(*choices) if len(set(told) - {None}) == len(told) - told.count(None)]


def chains_of(book, placing, key):
    """All chains for a key, as promise [9] says them, the first ones first, as tuples compare."""
    rows = book[1]
    found = []
    open_ones = [((key, cell),) for cell in rows[key]]
    for told in open_ones:
        cell = told[-1][1]
        if cell not in placing:
            found.append(told)
        else:
            following = placing.index(cell)
            if following not in [one for one, _ in told]:
                open_ones.extend((*told, (following, one)) for one in rows[following])
    return sorted(found)


def reached_by_adding(book, placing, key):
    """The lot that is reached, one key after the other added to it."""
    lot = {key}
    while True:
        more = [one for one in range(len(placing)) if one not in lot and placing[one] is not None
                and any(placing[one] in book[1][other] for other in lot)]
        if not more:
            return tuple(sorted(lot))
        lot.add(more[-1])


def cells_behind(placing, told):
    cells = dict(told)
    return tuple(cells.get(key, cell) for key, cell in enumerate(placing))


def small_books():
    draw = random.Random(20)
    return books_up_to(1, 3) + books_up_to(2, 3) + books_up_to(3, 2) + some_books(draw, 40, 5, 4, 3) + [FULL, RING]


def wrong_placings(book):
    """No placings of a book of at least two keys, the first two of which have a cell 0 in their rows."""
    m, rows = book
    good = (None,) * len(rows)
    wrong = [None, True, 0, "", "0*", b"0", {}, set(), [], list(good), range(len(rows)), good[1:], good + (None,), ()]
    wrong += [(0, 0) + good[2:], (m,) + good[1:], (-1,) + good[1:], good[:-1] + (m,), (good,), [good], good + good]
    absent = [cell for cell in range(m) if cell not in rows[-1]]
    wrong += [good[:-1] + (cell,) for cell in absent]
    for one in NO_INTEGERS:
        if one is not None:
            wrong += [(one,) + good[1:], good[:-1] + (one,)]
    return wrong


class AgainstAllPlacings(Case):
    """All answers for small books, beside those from trying all chains and all seats."""

    def test_is_placing(self):
        for book in books_up_to(2, 2) + books_up_to(3, 2)[::3] + [FULL]:
            m, rows = book
            placings = placings_of(book)
            for many in range(4):
                for told in itertools.product([None, *range(-1, m + 1)], repeat=many):
                    self.same(is_placing(book, told), told in placings)

    def test_chains_and_reached(self):
        for book in small_books():
            for placing in placings_of(book):
                for key in range(len(placing)):
                    if placing[key] is None:
                        self.check_key(book, placing, key)

    def check_key(self, book, placing, key):
        chains = chains_of(book, placing, key)
        least = min(chains, key=lambda told: (len(told), told), default=None)
        with self.subTest(book=book, placing=placing, key=key):
            self.same(chain(book, placing, key), least)
            lot = reached(book, placing, key)
            self.same(lot, reached_by_adding(book, placing, key))
            placed = [one for one, cell in enumerate(placing) if cell is not None or one == key]
            # There is a chain exactly if the key has seats together with all that have cells.
            self.assertEqual(bool(chains), bool(seats_by_trying(book, placed)))
            if not chains:
                self.assertLess(len({cell for one in lot for cell in book[1][one]}), len(lot))
            for told in chains:
                self.same(is_chain(book, placing, key, told), True)
                after = behind(book, placing, told)
                self.same(after, cells_behind(placing, told))
                self.same(is_placing(book, after), True)

    def test_is_chain(self):
        for book in books_up_to(2, 2)[::2] + [FULL]:
            m, rows = book
            pairs = list(itertools.product(range(len(rows)), range(m)))
            tuples = [told for many in (1, 2, 3) for told in itertools.product(pairs, repeat=many)]
            for placing in placings_of(book):
                chains = {key: chains_of(book, placing, key) for key, cell in enumerate(placing) if cell is None}
                for told in tuples:
                    for key in chains:
                        self.same(is_chain(book, placing, key, told), told in chains[key])
                    if told in chains.get(told[0][0], []):
                        self.same(behind(book, placing, told), cells_behind(placing, told))
                    else:
                        with self.assertRaises(InvalidChain):
                            behind(book, placing, told)

    def test_all_in(self):
        draw = random.Random(21)
        for book in small_books() + some_books(draw, 40, 7, 5, 3):
            placing = (None,) * len(book[1])
            for key in range(len(placing)):
                found = min(chains_of(book, placing, key), key=lambda told: (len(told), told), default=())
                placing = cells_behind(placing, found)
            self.same(all_in(book), placing)

    def test_taken_out(self):
        for book in small_books()[::3]:
            for placing in placings_of(book):
                for key in range(len(placing)):
                    self.same(taken_out(book, placing, key), cells_behind(placing, ((key, None),)))


class Edges(Case):
    def test_is_placing(self):
        for told in ((None,) * 3, (0, None, None), (None, 0, None), (0, None, 1), (1, 0, None), (None, 0, 1)):
            self.answers(True, is_placing, book=FULL, told=told)
        for told in wrong_placings(FULL) + [(0, 0, None), (0, None, 0), (None, 1, None), (None, 0, 0), (1, None, 1)]:
            with self.subTest(told=told):
                self.answers(False, is_placing, book=FULL, told=told)
        self.answers(True, is_placing, book=(1, ()), told=())
        for told in ((None,), [], None, "", (0,)):
            self.answers(False, is_placing, book=(1, ()), told=told)
        self.answers(True, is_placing, book=WIDEST, told=tuple(range(40)))
        self.answers(False, is_placing, book=WIDEST, told=tuple(range(39, -1, -1)))
        # Cells of rows alike, once and twice.
        alike = (2, ((0, 1), (0, 1)))
        self.answers(True, is_placing, book=alike, told=(1, 0))
        self.answers(False, is_placing, book=alike, told=(1, 1))

    def test_chain(self):
        self.answers(((1, 0), (0, 1)), chain, book=FULL, placing=(0, None, None), key=1)
        self.answers(((2, 1),), chain, book=FULL, placing=(0, None, None), key=2)
        self.answers(None, chain, book=FULL, placing=(1, 0, None), key=2)
        self.answers(((0, 0),), chain, book=(1, ((0,),)), placing=(None,), key=0)
        self.answers(None, chain, book=(1, ((0,), (0,))), placing=(0, None), key=1)
        self.answers(((1, 1),), chain, book=(3, ((0,), (1, 2))), placing=(None, None), key=1)
        # A free cell goes ahead of a lesser one that is taken.
        self.answers(((1, 2),), chain, book=(3, ((0, 1), (0, 2))), placing=(0, None), key=1)
        # The fewest pairs, though lesser cells lead on as well.
        self.answers(((4, 2), (2, 3)), chain, book=FORK, placing=(0, 1, 2, None, None), key=4)
        self.answers(((3, 1), (1, 2), (2, 3)), chain, book=FORK, placing=(0, 1, 2, None, None), key=3)
        self.answers(((4, 2),), chain, book=FORK, placing=(0, 1, None, None, None), key=4)
        self.answers(((3, 1), (1, 2)), chain, book=FORK, placing=(0, 1, None, None, None), key=3)
        # Of those with the fewest pairs, the least cell of the first pair, then of the second one.
        self.answers(((2, 0), (0, 3)), chain, book=(4, ((0, 3), (1, 2), (0, 1))), placing=(0, 1, None), key=2)
        self.answers(((2, 0), (0, 2)), chain, book=(5, ((0, 2, 3), (1, 4), (0, 1))), placing=(0, 1, None), key=2)

    def test_chain_of_all_keys(self):
        self.answers(LINE_CHAIN, chain, book=LINE, placing=LINE_PLACING, key=0)
        self.answers(True, is_chain, book=LINE, placing=LINE_PLACING, key=0, told=LINE_CHAIN)
        self.answers(tuple(range(40)), reached, book=LINE, placing=LINE_PLACING, key=0)
        self.answers((39,) + tuple(range(39)), behind, book=LINE, placing=LINE_PLACING, told=LINE_CHAIN)
        self.answers(False, is_chain, book=LINE, placing=LINE_PLACING, key=0, told=LINE_CHAIN[:-1])

    def test_reached(self):
        self.answers((0, 1, 2), reached, book=FULL, placing=(1, 0, None), key=2)
        self.answers((0, 1), reached, book=FULL, placing=(0, None, None), key=1)
        self.answers((0,), reached, book=FULL, placing=(None, None, None), key=0)
        self.answers((2,), reached, book=FULL, placing=(0, None, None), key=2)
        # Those that have no cell are not reached, but for the key itself.
        self.answers((1, 3), reached, book=(3, ((0, 1), (0, 1), (0,), (1,))), placing=(None, 1, None, None), key=3)
        self.answers((0, 1), reached, book=(1, ((0,), (0,))), placing=(None, 0), key=0)

    def test_is_chain(self):
        placing = (0, None, None)
        self.answers(True, is_chain, book=FULL, placing=placing, key=1, told=((1, 0), (0, 1)))
        for told in (
            # For another key, cut off, of a cell that a key has, with a pair more, with a cell not of its row.
            ((2, 1),), ((1, 0),), ((0, 1),), ((0, 1), (1, 0)), ((1, 0), (0, 0)), ((1, 0), (0, 1), (2, 1)),
            ((1, 1),), ((1, 1), (0, 1)), ((1, 1), (2, 1)), ((1, 0), (0, 1), (0, 1)), ((1, 0), (2, 1)),
            ((1, 0), (1, 0), (0, 1)), ((1, 0), (0, 0), (0, 1)), ((0, 0),), ((2, 0), (0, 1)),
        ):
            with self.subTest(told=told):
                self.answers(False, is_chain, book=FULL, placing=placing, key=1, told=told)
        # Round in a circle, with a key twice.
        placing = (0, 1, None)
        book = (3, ((0, 1, 2), (0, 1), (0, 1)))
        self.answers(True, is_chain, book=book, placing=placing, key=2, told=((2, 1), (1, 0), (0, 2)))
        self.answers(True, is_chain, book=book, placing=placing, key=2, told=((2, 0), (0, 2)))
        for told in (((2, 0), (0, 1), (1, 0), (0, 2)), ((2, 0), (0, 1), (1, 0)), ((2, 1), (1, 1), (1, 0), (0, 2))):
            self.answers(False, is_chain, book=book, placing=placing, key=2, told=told)
        # A longer one is one too.
        self.answers(True, is_chain, book=book, placing=(1, None, None), key=2, told=((2, 1), (0, 0)))
        self.answers(True, is_chain, book=book, placing=(1, None, None), key=2, told=((2, 0),))

    def test_behind(self):
        self.answers((1, 0, None), behind, book=FULL, placing=(0, None, None), told=((1, 0), (0, 1)))
        self.answers((0, None, 1), behind, book=FULL, placing=(0, None, None), told=((2, 1),))
        self.answers((None, 0, None), behind, book=FULL, placing=(None, None, None), told=((1, 0),))

    def test_taken_out(self):
        self.answers((None, 0, None), taken_out, book=FULL, placing=(1, 0, None), key=0)
        self.answers((1, None, None), taken_out, book=FULL, placing=(1, 0, None), key=1)
        self.answers((1, 0, None), taken_out, book=FULL, placing=(1, 0, None), key=2)
        self.answers((None,), taken_out, book=(1, ((0,),)), placing=(0,), key=0)

    def test_all_in(self):
        self.answers((1, 0, None), all_in, book=FULL)
        self.answers((0, 1, 2), all_in, book=RING)
        self.answers((), all_in, book=(1, ()))
        self.answers((0,) + (None,) * 39, all_in, book=(1, ((0,),) * 40))
        self.answers(tuple(range(40)), all_in, book=WIDEST)
        self.answers(tuple(range(40)), all_in, book=(40, (tuple(range(40)),) * 40))
        self.answers((0, None, None, 1), all_in, book=(3, ((0,), (0,), (0,), (0, 1))))

    def test_bounds(self):
        draw = random.Random(22)
        for book in large_books() + some_books(draw, 20, 40, 40, 2):
            placing = all_in(book)
            self.same(is_placing(book, placing), True)
            for key, cell in enumerate(placing):
                if cell is None:
                    self.same(chain(book, placing, key), None)
                    lot = reached(book, placing, key)
                    self.same(lot, reached_by_adding(book, placing, key))
                    self.assertLess(len({cell for one in lot for cell in book[1][one]}), len(lot))
                else:
                    out = taken_out(book, placing, key)
                    told = chain(book, out, key)
                    self.assertEqual(len(told), 1)
                    self.same(is_chain(book, out, key, told), True)
                    self.same(is_placing(book, behind(book, out, told)), True)


class Wrong(Case):
    def test_books(self):
        self.fails_with_each(InvalidBook, "book", NO_BOOKS, all_in)
        for placing in ((), None, [None]):
            more = {"book": None, "placing": placing}
            self.fails_with_each(InvalidBook, "book", NO_BOOKS, is_placing, book=None, told=placing)
            self.fails_with_each(InvalidBook, "book", NO_BOOKS, chain, **more, key=-1)
            self.fails_with_each(InvalidBook, "book", NO_BOOKS, reached, **more, key=None)
            self.fails_with_each(InvalidBook, "book", NO_BOOKS, taken_out, **more, key=None)
            self.fails_with_each(InvalidBook, "book", NO_BOOKS, behind, **more, told=())
            self.fails_with_each(InvalidBook, "book", NO_BOOKS, is_chain, **more, key=None, told=None)

    def test_placings(self):
        for book in (FULL, WIDEST, (3, ((0, 2), (0, 1), (1, 2)))):
            wrong = wrong_placings(book)
            for key in (0, -1, None):
                for function in (chain, reached, taken_out):
                    self.fails_with_each(InvalidPlacing, "placing", wrong, function, book=book, placing=None, key=key)
                for told in ((), None, ((0, 0),)):
                    self.fails_with_each(InvalidPlacing, "placing", wrong, is_chain, book=book, placing=None, key=key,
                                         told=told)
            for told in ((), None, ((0, 0),)):
                self.fails_with_each(InvalidPlacing, "placing", wrong, behind, book=book, placing=None, told=told)

    def test_keys(self):
        for placing in ((None, None, None), (1, 0, None)):
            for function in (chain, reached, taken_out):
                self.fails_with_each(InvalidKey, "key", wrong_keys(3), function, book=FULL, placing=placing, key=None)
            for told in (((2, 0),), (), None, [(2, 0)], ((9, 9),)):
                self.fails_with_each(InvalidKey, "key", wrong_keys(3), is_chain, book=FULL, placing=placing, key=None,
                                     told=told)
        for function in (chain, reached, taken_out):
            self.fails_with_each(InvalidKey, "key", (0, -1, None), function, book=(1, ()), placing=(), key=None)

    def test_keys_that_have_a_cell(self):
        for function in (chain, reached):
            self.fails_with_each(InvalidKey, "key", (0, 1), function, book=FULL, placing=(1, 0, None), key=None)
        for told in (((0, 0),), ((2, 1), (0, 0)), (), None):
            self.fails_with_each(InvalidKey, "key", (0, 1), is_chain, book=FULL, placing=(1, 0, None), key=None,
                                 told=told)

    def test_no_pairs(self):
        for book in (FULL, (4, ((0, 1, 2, 3), (0, 3)))):
            wrong = no_pairs(len(book[1]), book[0]) + [()]
            placing = (None,) * len(book[1])
            self.fails_with_each(InvalidChain, "told", wrong, is_chain, book=book, placing=placing, key=0, told=None)
            self.fails_with_each(InvalidChain, "told", wrong, behind, book=book, placing=placing, told=None)
        self.fails_with_each(InvalidChain, "told", [(), ((0, 0),), None], behind, book=(1, ()), placing=(), told=None)

    def test_no_chains(self):
        wrong = [((1, 0),), ((0, 1),), ((0, 0),), ((0, 1), (1, 0)), ((1, 0), (0, 0)), ((1, 0), (0, 1), (2, 1)),
                 ((1, 1),), ((1, 0), (2, 1)), ((1, 0), (1, 0), (0, 1)), ((1, 0), (0, 1), (0, 1)), ((2, 0), (0, 1))]
        self.fails_with_each(InvalidChain, "told", wrong, behind, book=FULL, placing=(0, None, None), told=None)


if __name__ == "__main__":
    unittest.main()
