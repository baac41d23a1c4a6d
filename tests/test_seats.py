"""seats.py: promise [8], and of [14] what speaks of seats."""

import itertools
import random
import unittest

from keytellers.books import part
from keytellers.errors import InvalidBook, InvalidLot, InvalidSeats, NoSeats
from keytellers.seats import first_seats, is_seated, is_short, least_short, most_seated, settled
from tests.helpers import Case, NO_INTEGERS, all_lots, books_up_to, seats_by_trying, some_books
from tests.test_books import NO_BOOKS, RING, WIDEST, wrong_lots
from tests.test_lots import large_books

FULL = (2, ((0, 1), (0,), (1,)))
EVERY_40 = tuple(range(40))
ALL_CELLS = (40, (EVERY_40,) * 40)
ONE_EACH = (40, tuple((39 - key,) for key in range(40)))
# Each key has all cells up to its own number, but in the sequence from the last to the first.
NARROWING = (40, tuple(tuple(range(40 - key)) for key in range(40)))
RING_40 = (40, tuple(tuple(sorted((key, (key + 1) % 40))) for key in range(40)))


def small_books():
    draw = random.Random(23)
    return (books_up_to(1, 4) + books_up_to(2, 4) + books_up_to(3, 3)[::2] + some_books(draw, 60, 6, 6, 3)
            + [FULL, RING])


def is_short_by_counting(book, lot):
    return len({cell for key in lot for cell in book[1][key]}) < len(lot)


def least_by_counting(book):
    """The short lot with the fewest keys, of these the first, or None."""
    n = len(book[1])
    return next((lot for many in range(n + 1) for lot in itertools.combinations(range(n), many)
                 if is_short_by_counting(book, lot)), None)


def first_by_leaving(book):
    """The first seats of all keys, or None: the first cell each time that leaves seats, by trying each in turn."""
    m, rows = book

    def grown(owners, key, tried):
        for cell in rows[key]:
            if cell not in tried:
                tried.add(cell)
                if cell not in owners or owners[cell] >= 0 and grown(owners, owners[cell], tried):
                    owners[cell] = key
                    return True
        return False

    def can_be_seated(fixed):
        # A fixed key's cell has an owner that can not be moved.
        owners = {cell: -1 for cell in fixed}
        return all(grown(owners, key, set()) for key in range(len(fixed), len(rows)))

    fixed = []
    for row in rows:
        fits = [cell for cell in row if cell not in fixed and can_be_seated(fixed + [cell])]
        if not fits:
            return None
        fixed.append(fits[0])
    return tuple(fixed)


class AgainstAllSeats(Case):
    """All answers for small books, beside those from trying all ways to seat them, and all lots."""

    def check_short(self, book, lot):
        self.assertIsInstance(lot, tuple)
        self.assertIn(lot, all_lots(len(book[1])))
        self.same(is_short(book, lot), True)
        self.assertTrue(is_short_by_counting(book, lot))

    def test_settled_and_first_seats(self):
        for book in small_books():
            lots = all_lots(len(book[1]))
            seats = seats_by_trying(book, range(len(book[1])))
            short = [lot for lot in lots if is_short_by_counting(book, lot)]
            outcome, found = settled(book)
            with self.subTest(book=book):
                self.assertEqual(bool(seats), not short)
                self.same(outcome, "seats" if seats else "short")
                self.same(settled(book), (outcome, found))
                if seats:
                    self.assertIn(found, seats)
                    self.same(first_seats(book), seats[0])
                    self.same(is_seated(book, lots[0], ()), True)
                    self.same(least_short(book), None)
                else:
                    self.check_short(book, found)
                    with self.assertRaises(NoSeats) as caught:
                        first_seats(book)
                    self.check_short(book, caught.exception.value)
                    self.same(least_short(book), min(short, key=lambda lot: (len(lot), lot)))

    def test_is_short_and_most_seated(self):
        for book in small_books():
            lots = all_lots(len(book[1]))
            for lot in lots:
                self.same(is_short(book, lot), is_short_by_counting(book, lot))
            seated = [lot for lot in lots if seats_by_trying(book, lot)]
            most = max(len(lot) for lot in seated)
            self.same(most_seated(book), [lot for lot in seated if len(lot) == most][0])

    def test_is_seated(self):
        for book in books_up_to(2, 3)[::2] + books_up_to(3, 2)[::3] + [FULL, RING]:
            for lot in all_lots(len(book[1])):
                seats = seats_by_trying(book, lot)
                for many in range(5):
                    for told in itertools.product(range(book[0]), repeat=many):
                        self.same(is_seated(book, lot, told), told in seats)

    def test_first_seats_of_more_keys(self):
        draw = random.Random(24)
        seen = 0
        for book in some_books(draw, 150, 9, 12, 4):
            wanted = first_by_leaving(book)
            if wanted is not None:
                seen += 1
                self.same(first_seats(book), wanted)
        self.assertGreater(seen, 50)


class Edges(Case):
    def test_settled(self):
        self.answers(("seats", ()), settled, book=(1, ()))
        self.answers(("seats", (0,)), settled, book=(1, ((0,),)))
        self.answers(("short", (0, 1)), settled, book=(1, ((0,), (0,))))
        self.answers(("short", (0, 1, 2)), settled, book=FULL)
        self.answers(("seats", EVERY_40[::-1]), settled, book=ONE_EACH)
        self.answers(("seats", EVERY_40[::-1]), settled, book=NARROWING)

    def test_is_seated(self):
        for lot, told in (((0, 1), (1, 2)), ((0, 1, 2), (0, 1, 2)), ((0, 1, 2), (1, 2, 0)), ((2,), (0,)), ((), ())):
            self.answers(True, is_seated, book=RING, lot=lot, told=told)
        for lot, told in (
            # A cell twice, one not of the row, one of another key's row, too few, too many.
            ((0, 1), (1, 1)), ((0, 1), (2, 1)), ((0, 1), (0, 0)), ((0, 1), (0,)), ((0, 1), (0, 1, 2)), ((0,), ()),
            ((), (0,)), ((0, 1, 2), (0, 2, 1)), ((1,), (0,)), ((0, 1), ()),
        ):
            self.answers(False, is_seated, book=RING, lot=lot, told=told)
        self.answers(True, is_seated, book=(1, ()), lot=(), told=())
        self.answers(False, is_seated, book=(1, ()), lot=(), told=(0,))
        self.answers(True, is_seated, book=ALL_CELLS, lot=EVERY_40, told=EVERY_40[::-1])

    def test_is_short(self):
        for lot in ((0, 1, 2),):
            self.answers(True, is_short, book=FULL, lot=lot)
        for lot in ((), (0,), (1,), (0, 1), (0, 2), (1, 2)):
            self.answers(False, is_short, book=FULL, lot=lot)
        self.answers(False, is_short, book=(1, ()), lot=())
        self.answers(True, is_short, book=(1, ((0,),) * 40), lot=(3, 39))
        self.answers(False, is_short, book=ALL_CELLS, lot=EVERY_40)
        self.answers(True, is_short, book=(39, (EVERY_40[:39],) * 40), lot=EVERY_40)

    def test_most_seated(self):
        self.answers((0, 1), most_seated, book=FULL)
        self.answers((0, 1, 2), most_seated, book=RING)
        self.answers((), most_seated, book=(1, ()))
        self.answers((0,), most_seated, book=(1, ((0,),) * 40))
        self.answers(EVERY_40, most_seated, book=ALL_CELLS)
        # The second key has no seat beside the first one, and then two later ones have.
        self.answers((0, 2, 3), most_seated, book=(3, ((0,), (0,), (0, 1), (0, 2), (1, 2))))
        # Key 0 stays in, though it is the key 2 that has just that cell.
        self.answers((0, 1), most_seated, book=(2, ((0, 1), (0, 1), (0,))))

    def test_first_seats(self):
        self.answers((0, 1, 2), first_seats, book=RING)
        self.answers((), first_seats, book=(1, ()))
        self.answers((0,), first_seats, book=(1, ((0,),)))
        self.answers((4,), first_seats, book=(6, ((4, 5),)))
        # Key 0 has the cell 1 alone if key 1 is to have a seat.
        self.answers((1, 0), first_seats, book=(2, ((0, 1), (0,))))
        self.answers((1, 0, 3, 2), first_seats, book=(4, ((0, 1), (0,), (1, 2, 3), (2,))))
        self.answers(EVERY_40, first_seats, book=ALL_CELLS)
        self.answers(EVERY_40[::-1], first_seats, book=NARROWING)
        self.answers(EVERY_40[::-1], first_seats, book=ONE_EACH)
        self.answers(EVERY_40, first_seats, book=RING_40)
        self.answers(EVERY_40, first_seats, book=WIDEST)
        self.answers((39,) + EVERY_40[:39], first_seats, book=(40, (EVERY_40,) + ONE_EACH[1][:0:-1]))

    def test_least_short(self):
        self.answers((0, 1, 2), least_short, book=FULL)
        self.answers(None, least_short, book=RING)
        self.answers(None, least_short, book=(1, ()))
        self.answers((0, 1), least_short, book=(1, ((0,),) * 3))
        # Of those with the fewest keys the first one, though there is one ahead with more.
        self.answers((3, 5), least_short, book=(4, ((0, 1), (0, 1), (0, 1), (2,), (3,), (2,), (2,))))
        self.answers((0, 1, 2), least_short, book=(5, ((0, 1), (0, 1), (0, 1), (2, 3), (2, 3), (2, 3))))

    def test_bounds(self):
        draw = random.Random(25)
        books = large_books() + some_books(draw, 30, 40, 40, 3) + [ONE_EACH, NARROWING, RING_40]
        for at in range(30):
            # So many cells and keys, and so narrow rows, that some of these books can be seated, and some not.
            rows = [tuple(sorted(draw.sample(range(40), draw.randint(2, 5)))) for _ in range(30 + at % 11)]
            books.append((40, tuple(rows)))
        outcomes = set()
        for book in books:
            outcome, found = settled(book)
            outcomes.add((outcome, len(book[1]) > 30))
            wanted = first_by_leaving(book)
            self.same(outcome, "short" if wanted is None else "seats")
            most = most_seated(book)
            self.same(settled(part(book, most))[0], "seats")
            if wanted is None:
                self.assertTrue(is_short_by_counting(book, found))
                self.same(is_short(book, found), True)
                self.assertLess(len(most), len(book[1]))
                with self.assertRaises(NoSeats) as caught:
                    first_seats(book)
                self.assertTrue(is_short_by_counting(book, caught.exception.value))
                for key in set(range(len(book[1]))) - set(most):
                    # No lot ahead of it: the key has no seat beside the ones below it.
                    below = tuple(one for one in most if one < key) + (key,)
                    self.same(settled(part(book, below))[0], "short")
            else:
                self.same(is_seated(book, most, found), True)
                self.same(first_seats(book), wanted)
        self.assertEqual(len(outcomes), 4)


class LeastOfSixteen(Case):
    def test_some(self):
        draw = random.Random(26)
        for m, longest in ((1, 1), (4, 2), (8, 3), (12, 3), (15, 4), (15, 15), (20, 3), (16, 2), (14, 2), (40, 2)):
            for _ in range(3):
                rows = [tuple(sorted(draw.sample(range(m), draw.randint(1, longest)))) for _ in range(16)]
                self.same(least_short((m, tuple(rows))), least_by_counting((m, tuple(rows))))

    def test_edges(self):
        every = tuple(range(16))
        # The one short lot is that of all keys.
        self.answers(every, least_short, book=(15, ((0,),) + tuple((key - 1, key) for key in range(1, 15)) + ((14,),)))
        self.answers(every, least_short, book=(15, tuple((key,) for key in range(15)) + (every[:15],)))
        self.answers(every, least_short, book=(15, (every[:15],) * 16))
        self.answers(every[:15], least_short, book=(14, (every[:14],) * 16))
        self.answers((14, 15), least_short, book=(15, tuple((key,) for key in range(15)) + ((14,),)))
        self.answers(None, least_short, book=(16, tuple((key,) for key in every)))
        self.answers(None, least_short, book=(40, (EVERY_40,) * 16))

    def test_somewhat_beyond(self):
        self.answers((0, 19), least_short, book=(19, tuple((key % 19,) for key in range(20))))
        self.answers(tuple(range(18)), least_short, book=(17, (tuple(range(17)),) * 18))


class Wrong(Case):
    def test_books(self):
        for function in (settled, most_seated, first_seats, least_short):
            self.fails_with_each(InvalidBook, "book", NO_BOOKS, function)
        for lot in ((), (0,), None, [0]):
            self.fails_with_each(InvalidBook, "book", NO_BOOKS, is_short, book=None, lot=lot)
            self.fails_with_each(InvalidBook, "book", NO_BOOKS, is_seated, book=None, lot=lot, told=None)

    def test_lots(self):
        for told in (None, (), (0,), (0, 1), (9,)):
            self.fails_with_each(InvalidLot, "lot", wrong_lots(3), is_seated, book=RING, lot=None, told=told)
        self.fails_with_each(InvalidLot, "lot", wrong_lots(3), is_short, book=RING, lot=None)
        self.fails_with_each(InvalidLot, "lot", wrong_lots(40), is_short, book=WIDEST, lot=None)
        self.fails_with_each(InvalidLot, "lot", [(0,), [], None], is_short, book=(1, ()), lot=None)

    def test_no_cells(self):
        wrong = [None, True, 0, 1, "", "01", b"01", [], [0, 1], {}, {0, 1}, {0: 1}, range(2), (3,), (0, 3), (-1,),
                 (0, -1), (1 << 100,), ((0,),), (0, (1,)), ([0], 1), (3, 3)]
        wrong += [told for one in NO_INTEGERS for told in ((one,), (0, one), (one, 1))]
        for lot in ((), (0,), (0, 1), (0, 1, 2)):
            self.fails_with_each(InvalidSeats, "told", wrong, is_seated, book=RING, lot=lot, told=None)

    def test_no_seats(self):
        draw = random.Random(27)
        for book in [FULL, (1, ((0,),) * 40), (39, (EVERY_40[:39],) * 40)] + some_books(draw, 30, 20, 8, 4):
            if settled(book)[0] == "short":
                for way in self.call(first_seats, {"book": book}):
                    with self.assertRaises(NoSeats) as caught:
                        way()
                    self.assertIs(type(caught.exception), NoSeats)
                    self.same(is_short(book, caught.exception.value), True)
                    self.assertTrue(is_short_by_counting(book, caught.exception.value))


if __name__ == "__main__":
    unittest.main()
