"""The whole document: its interface, and the promises of [14], by what one function tells being handed to the others."""

import importlib
import inspect
import itertools
import random
import unittest

from keytellers.books import book, cells_of, is_book, keys_of, part, with_key
from keytellers.chains import all_in, behind, chain, is_chain, is_placing, reached, taken_out
from keytellers.changes import changed, fewest, is_enough
from keytellers.choosers import chooser, chosen, is_good, key_of, number_of
from keytellers.consoles import Console
from keytellers.cores import core, is_road, road, table_back
from keytellers.errors import HasCore, NoSeats, NoTable, TellError
from keytellers.filters import both, filter_of, how_many_in, is_filter, lets_in, wrongly
from keytellers.lots import closed_base, closing, free_lot, is_closed, is_free, least_closed
from keytellers.mixings import book_of, is_mixing, least_peeled, least_seed, mark_of, row_of, seeded
from keytellers.readers import read_book, read_filter, read_mixing, read_placing, read_road, read_words
from keytellers.room import bits_of, least_bits, share
from keytellers.seats import first_seats, is_seated, is_short, least_short, most_seated, settled
from keytellers.tables import first_table, fitting, how_many, is_told, settle, told, values_of
from keytellers.texts import show_book, show_filter, show_mixing, show_placing, show_road, show_words
from keytellers.words import added_all, is_word, width
from tests.helpers import Case, exact, some_books
from tests.test_lots import large_books
from tests.test_mixings import some_mixings

INTERFACE = {
    "words": "added(a, b) added_all(some) bits(a) width(a) is_word(w, told)",
    "books": "is_book(told) book(m, rows) with_key(book, row) without_key(book, key) keys_of(book, cell) "
             "cells_of(book, lot) part(book, lot)",
    "lots": "is_closed(book, lot) is_free(book) free_lot(book) closing(book, lot, key) how_many_closed(book) "
            "closed_base(book) least_closed(book)",
    "tables": "told(book, table, key) values_of(book, table) settle(book, values) first_table(book, values) "
              "how_many(book, w, values) is_told(book, table, values) fitting(book, values)",
    "cores": "core(book) road(book) is_road(book, told) table_back(book, values, told)",
    "seats": "settled(book) is_seated(book, lot, told) is_short(book, lot) most_seated(book) first_seats(book) "
             "least_short(book)",
    "chains": "is_placing(book, told) chain(book, placing, key) reached(book, placing, key) "
              "is_chain(book, placing, key, told) behind(book, placing, told) taken_out(book, placing, key) all_in(book)",
    "choosers": "chooser(book) chosen(book, table, key) is_good(book, table) number_of(book, table, key) "
                "key_of(book, table, number)",
    "mixings": "is_mixing(told) row_of(mixing, x) mark_of(mixing, w, x) book_of(mixing, numbers) seeded(mixing, s) "
               "least_seed(mixing, numbers, most) least_peeled(mixing, numbers, most)",
    "filters": "is_filter(told) filter_of(mixing, w, numbers) lets_in(mesh, x) wrongly(mesh, numbers, many) "
               "how_many_in(mesh, many) both(one, other, many)",
    "changes": "changed(one, other) fewest(book, table, values) is_enough(book, table, values, cells)",
    "room": "bits_of(book, w) share(book, w) ways(k, n) least_bits(u, n, f)",
    "texts": "show_book(book) show_words(words) show_placing(placing) show_road(told) show_mixing(mixing) "
             "show_filter(mesh)",
    "readers": "read_book(text) read_words(text) read_placing(text) read_road(text) read_mixing(text) "
               "read_filter(text)",
}
CONSOLE = "keep(self, name, book) drop(self, name) undo(self) book(self, name) names(self) order(self, text)"


def calls_in(text):
    """[(name, [names of the arguments])] of what an interface lists."""
    return [(name, arguments.split(", ")) for name, _, arguments in
            (one.rstrip(")").partition("(") for one in text.replace(") ", ")|").split("|"))]


def mixed_books(draw):
    """Books of all sizes and sorts."""
    return some_books(draw, 40, 8, 8, 3) + some_books(draw, 20, 40, 40, 3) + large_books()[:12]


class Interface(Case):
    def test_functions(self):
        for file, text in INTERFACE.items():
            module = importlib.import_module(f"keytellers.{file}")
            for name, arguments in calls_in(text):
                function = getattr(module, name)
                self.assertTrue(inspect.isfunction(function), name)
                self.assertEqual(function.__module__, f"keytellers.{file}", name)
                self.assertEqual(list(inspect.signature(function).parameters), arguments if arguments != [""] else [])

    def test_console(self):
        self.assertEqual(Console.__module__, "keytellers.consoles")
        self.assertEqual(list(inspect.signature(Console).parameters), [])
        for name, arguments in calls_in(CONSOLE):
            # Each method is defined in the class itself.
            self.assertEqual(list(inspect.signature(Console.__dict__[name]).parameters), arguments)


class Tables(Case):
    def test_any_values_and_told_values(self):
        draw = random.Random(51)
        for one in mixed_books(draw):
            m, rows = one
            free = is_free(one)
            for w in (1, 2, 60):
                values = tuple(draw.getrandbits(w) for _ in rows)
                outcome, found = settle(one, values)
                self.assertTrue(outcome == "table" or not free)
                # Told values are told exactly if those of each closed lot of the base add up to 0.
                sums = [added_all([values[key] for key in lot]) for lot in closed_base(one)]
                self.assertEqual(outcome == "table", not any(sums))
                self.same(fitting(one, values) == tuple(range(len(rows))), outcome == "table")
                if outcome == "table":
                    self.same(is_told(one, found, values), True)
                    self.same(is_told(one, first_table(one, values), values), True)
                    self.assertGreater(how_many(one, w, values), 0)
                else:
                    self.same(is_closed(one, found), True)
                    self.assertNotEqual(added_all([values[key] for key in found]), 0)
                    self.same(how_many(one, w, values), 0)
                    self.same(fewest((m, rows), (0,) * m, values) if m <= 10 else None, None)
                # The values that some table tells are those of a lot that fits.
                lot = fitting(one, values)
                self.same(settle(part(one, lot), tuple(values[key] for key in lot))[0], "table")

    def test_lots(self):
        draw = random.Random(52)
        for one in mixed_books(draw):
            kept = free_lot(one)
            self.same(is_free(part(one, kept)), True)
            for key in range(len(one[1])):
                if key not in kept:
                    lot = closing(one, kept, key)
                    self.same(is_closed(one, lot), True)
                    self.assertEqual(set(lot) - {key}, set(lot) & set(kept))
            for cell in cells_of(one, kept):
                self.assertTrue(set(keys_of(one, cell)) & set(kept))
            self.assertEqual(share(one, 5)[0] * bits_of(one, 1), share(one, 5)[1] * len(one[1]))


class Cores(Case):
    def test_roads(self):
        draw = random.Random(53)
        seen = set()
        for one in mixed_books(draw):
            way = road(one)
            left = core(one)
            seen.add(left == ())
            self.same(is_road(one, way), True)
            self.same(tuple(sorted([key for key, _ in way] + list(left))), tuple(range(len(one[1]))))
            self.same(core(part(one, left)), tuple(range(len(left))))
            # A part of the book that is taken off altogether is free, and its table is told along the road back.
            off = tuple(sorted(key for key, _ in way))
            smaller = part(one, off)
            self.same(core(smaller), ())
            self.same(is_free(smaller), True)
            values = tuple(draw.getrandbits(60) for _ in off)
            table = table_back(smaller, values, road(smaller))
            self.same(is_told(smaller, table, values), True)
            self.same(values_of(smaller, table), values)
            # The keys of a core () have seats, each the cell that it is taken off with.
            seats = dict(road(smaller))
            self.same(is_seated(smaller, tuple(range(len(off))), tuple(seats[key] for key in range(len(off)))), True)
        self.assertEqual(len(seen), 2)

    def test_choosers(self):
        draw = random.Random(54)
        seen = set()
        for one in some_books(draw, 60, 8, 8, 4) + some_books(draw, 60, 20, 40, 4):
            n = len(one[1])
            try:
                table = chooser(one)
            except HasCore as error:
                seen.add("core")
                self.same(error.value, core(one))
                continue
            seen.add("chooser")
            self.same(is_good(one, table), True)
            self.same(core(one), ())
            cells = tuple(chosen(one, table, key) for key in range(n))
            self.same(is_placing(one, cells), True)
            self.same(is_seated(one, tuple(range(n)), cells), True)
            numbers = [number_of(one, table, key) for key in range(n)]
            self.assertEqual(sorted(numbers), list(range(n)))
            self.same([key_of(one, table, number) for number in numbers], list(range(n)))
            self.assertTrue(all(is_word(2, word) for word in table))
            self.same(told(one, table, 0) if n else 0, values_of(one, table)[0] if n else 0)
        self.assertEqual(len(seen), 2)


class Seats(Case):
    def test_seats_or_a_short_lot(self):
        draw = random.Random(55)
        seen = set()
        for one in mixed_books(draw) + some_books(draw, 60, 16, 16, 2):
            every = tuple(range(len(one[1])))
            outcome, found = settled(one)
            seen.add(outcome)
            placing = all_in(one)
            self.assertEqual(outcome == "seats", None not in placing)
            self.same(most_seated(one), tuple(key for key in every if placing[key] is not None))
            if outcome == "seats":
                self.same(is_seated(one, every, found), True)
                self.same(is_seated(one, every, first_seats(one)), True)
                self.same(is_placing(one, found), True)
                self.assertLessEqual(first_seats(one), found)
            else:
                self.same(is_short(one, found), True)
                self.assertRaises(NoSeats, first_seats, one)
                self.same(settled(part(one, found))[0], "short")
            if len(every) <= 16:
                least = least_short(one)
                self.assertEqual(least is None, outcome == "seats")
                if least is not None:
                    self.same(is_short(one, least), True)
                    self.assertLessEqual((len(least), least), (len(found), found))
            # Whatever is free can be seated, each key by a cell of its own.
            if is_free(one):
                self.same(outcome, "seats")
        self.assertEqual(len(seen), 2)

    def test_chains_from_placing_to_placing(self):
        draw = random.Random(56)
        outcomes = set()
        for one in some_books(draw, 40, 8, 6, 3) + some_books(draw, 15, 40, 40, 3) + large_books()[-4:]:
            every = range(len(one[1]))
            placing = (None,) * len(one[1])
            for _ in range(60 if one[1] else 0):
                key = draw.choice(every)
                if placing[key] is not None:
                    placing = taken_out(one, placing, key)
                    continue
                pairs = chain(one, placing, key)
                lot = reached(one, placing, key)
                outcomes.add(pairs is None)
                placed = tuple(other for other in every if placing[other] is not None or other == key)
                self.assertEqual(pairs is None, settled(part(one, placed))[0] == "short")
                if pairs is None:
                    self.same(is_short(one, lot), True)
                    continue
                self.same(is_chain(one, placing, key, pairs), True)
                self.assertTrue({other for other, _ in pairs} <= set(lot))
                self.same(read_road(show_road(pairs)), pairs)
                after = behind(one, placing, pairs)
                self.same(is_placing(one, after), True)
                self.assertEqual({other for other in every if after[other] is not None}, set(placed))
                self.same(read_placing(show_placing(after)), after)
                placing = after
        self.assertEqual(len(outcomes), 2)


class Filters(Case):
    def test_never_denied_and_exact(self):
        draw = random.Random(57)
        made = 0
        for mixing in some_mixings(draw, 60, 12, 60, 3):
            numbers = draw.sample(range(300), draw.randint(0, 8))
            w = draw.choice([1, 2, 5, 60])
            try:
                mesh = filter_of(mixing, w, numbers)
            except NoTable as error:
                self.same(is_closed(book_of(mixing, numbers), error.value), True)
                continue
            made += 1
            self.same(is_filter(mesh), True)
            self.same(is_told(book_of(mixing, numbers), mesh[2], tuple(mark_of(mixing, w, x) for x in numbers)), True)
            self.assertTrue(all(lets_in(mesh, x) for x in numbers))
            wrong = wrongly(mesh, numbers, 300)
            self.assertEqual(sorted(wrong + numbers), [x for x in range(300) if lets_in(mesh, x)])
            self.same(how_many_in(mesh, 300), len(wrong) + len(numbers))
            self.same(both(mesh, mesh, 10 ** 18), how_many_in(mesh, 10 ** 18))
            self.same(read_filter(show_filter(mesh)), mesh)
            self.same(read_mixing(show_mixing(mixing)), mixing)
        self.assertGreater(made, 30)

    def test_seeds(self):
        draw = random.Random(58)
        seen = set()
        for mixing in some_mixings(draw, 60, 8, 40, 3):
            numbers = draw.sample(range(200), draw.randint(2, 6))
            for least, bars in ((least_seed, is_closed), (least_peeled, None)):
                outcome, found = least(mixing, numbers, 4)
                seen.add((bars, outcome))
                if outcome == "seed":
                    one = seeded(mixing, found)
                    self.same(is_mixing(one), True)
                    # A free book has a table for any marks, so there is a filter of any width.
                    self.same(is_free(book_of(one, numbers)), True)
                    self.same(is_filter(filter_of(one, 60, numbers)), True)
                    self.assertTrue(bars or core(book_of(one, numbers)) == ())
                    continue
                self.assertEqual(len(found), 5)
                for s, lot in enumerate(found):
                    told_book = book_of(seeded(mixing, s), numbers)
                    self.assertEqual(told_book[1], tuple(row_of(seeded(mixing, s), x) for x in numbers))
                    self.assertTrue(bars(told_book, lot) if bars else lot == core(told_book) != ())
        self.assertEqual(len(seen), 4)

    def test_room(self):
        """Filters of one mixing for all lots of n of u numbers need as many bits as [13] says."""
        seen = 0
        draw = random.Random(59)
        for mixing in some_mixings(draw, 60, 6, 30, 3):
            for u, n, w in ((5, 1, 1), (6, 1, 2), (6, 2, 2), (5, 2, 1)):
                worst = 0
                for numbers in itertools.combinations(range(u), n):
                    try:
                        worst = max(worst, len(wrongly(filter_of(mixing, w, numbers), numbers, u)))
                    except NoTable:
                        break
                else:
                    seen += 1
                    self.assertGreaterEqual(bits_of(book_of(mixing, ()), w), least_bits(u, n, worst))
        self.assertGreater(seen, 40)


class Changes(Case):
    def test_from_values_to_values(self):
        draw = random.Random(60)
        for one in some_books(draw, 60, 12, 8, 4):
            m, rows = one
            table = tuple(draw.getrandbits(8) for _ in range(m))
            values = values_of(one, tuple(word if draw.random() < 0.5 else draw.getrandbits(8) for word in table))
            cells, after = fewest(one, table, values)
            self.same(is_told(one, after, values), True)
            self.same(changed(table, after), cells)
            self.same(is_enough(one, table, values, cells), True)
            for many in range(len(cells)):
                for fewer in itertools.combinations(range(m), many):
                    self.same(is_enough(one, table, values, fewer), False)
            self.same(fewest(one, after, values), ((), after))
            self.same(read_words(show_words(after)), after)
            self.assertTrue(all(is_word(max(map(width, table + values), default=1), word) for word in after))


class Consoles(Case):
    def test_answers_are_read_back(self):
        draw = random.Random(61)
        for one in some_books(draw, 40, 16, 16, 3):
            console = Console()
            console.keep("one", one)
            self.same(read_book(console.order("show one")), one)
            self.same(read_words(console.order("core one")), core(one))
            self.same(read_road(console.order("road one")), road(one))
            self.same(read_placing(console.order("placed one")), all_in(one))
            closed = console.order("closed one")
            self.same(None if closed == "no" else read_words(closed), least_closed(one))
            values = values_of(one, tuple(draw.getrandbits(59) for _ in range(one[0])))
            table = console.order(f"table one {show_words(values)}")
            self.same(read_words(table), first_table(one, values))
            for key, value in enumerate(values):
                self.same(console.order(f"told one {key} {table}"), str(value))
            lot = console.order("core one")
            self.same(console.order(f"part rest one {lot}"), "done")
            self.same(console.order("core rest"), show_words(tuple(range(len(core(one))))))


class WhatComesAndWhatIsHandedIn(Case):
    def test_lists_that_come_are_new(self):
        ring = book(3, [(0, 1), (2, 1), (0, 2)])
        console = Console()
        console.keep("ring", ring)
        mesh = ((1, 2, ((0, 0),), (0, 0)), 1, (0,))
        for way in (lambda: closed_base(ring), lambda: wrongly(mesh, [1], 3), console.names):
            one, other = way(), way()
            self.assertIsInstance(one, list)
            self.assertIsNot(one, other)
            wanted = exact(one)
            one.clear()
            other.append("spoilt")
            self.assertEqual(exact(way()), wanted)

    def test_what_is_handed_in_is_not_kept(self):
        rows, row, numbers = [[0, 1], [2, 1], [0, 2]], [2, 2], [4, 6]
        mixing = (3, 7, ((1, 0), (2, 1)), (3, 2))
        ring = book(3, rows)
        more = with_key(ring, row)
        some = book_of(mixing, numbers)
        mesh = filter_of(mixing, 3, numbers)
        console = Console()
        console.keep("ring", ring)
        wanted = exact((ring, more, some, mesh, console.book("ring")))
        self.assertEqual((rows, row, numbers), ([[0, 1], [2, 1], [0, 2]], [2, 2], [4, 6]))
        rows[0].append(2)
        rows.clear()
        row.append(1)
        numbers.clear()
        self.assertEqual(exact((ring, more, some, mesh, console.book("ring"))), wanted)
        self.assertTrue(is_book(ring) and is_filter(mesh))

    def test_tuples_all_the_way_down(self):
        def is_deep(thing):
            return type(thing) in (int, str, type(None)) or type(thing) is tuple and all(map(is_deep, thing))

        draw = random.Random(62)
        for one in some_books(draw, 30, 6, 6, 4):
            m, rows = one
            table = (1,) * m
            values = values_of(one, table)
            placing = all_in(one)
            told_things = [
                free_lot(one), settle(one, values), first_table(one, values), fitting(one, values), core(one), road(one),
                settled(one), most_seated(one), least_short(one), placing, fewest(one, table, values),
                fewest(one, (0,) * m, values), changed(table, (0,) * m), least_closed(one), values, read_book(show_book(one)),
                *closed_base(one), *[taken_out(one, placing, key) for key in range(len(rows))],
                *[chain(one, taken_out(one, placing, key), key) for key in range(len(rows))],
            ]
            for thing in told_things:
                self.assertTrue(is_deep(thing), thing)

    def test_errors_change_nothing(self):
        console = Console()
        console.order("book a\nbook 3\n0 1\n1 2")
        for text in ("book a\nbook 3\nx", "with a a 3", "undo it", "drop b", "without a a 7", "part a a 1 0"):
            with self.assertRaises(TellError):
                console.order(text)
        self.same(console.order("show a"), "book 3\n0 1\n1 2")
        console.undo()
        self.same(console.names(), [])


if __name__ == "__main__":
    unittest.main()
