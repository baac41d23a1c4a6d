"""The examples of the document, as it prints them, and those of README.md."""

import doctest
import os
import unittest

EXAMPLES = """
>>> from keytellers.words import added, added_all, bits, is_word, width
>>> [added(6, 3), added_all([1, 2, 4, 1]), bits(10), width(0), width(8), is_word(3, 8)]
[5, 6, (1, 3), 1, 4, False]
>>> from keytellers.books import book, cells_of, is_book, keys_of, part, with_key, without_key
>>> ring = book(3, [(0, 1), (2, 1), (0, 2)])
>>> [ring, keys_of(ring, 1), cells_of(ring, (0, 2)), without_key(ring, 0), with_key(ring, [2, 2]), part(ring, (1,))]
[(3, ((0, 1), (1, 2), (0, 2))), (0, 1), (0, 1, 2), (3, ((1, 2), (0, 2))), (3, ((0, 1), (1, 2), (0, 2), (2,))), \
(3, ((1, 2),))]
>>> from keytellers.lots import closed_base, closing, free_lot, how_many_closed, is_closed, is_free, least_closed
>>> [is_closed(ring, (0, 1, 2)), is_free(ring), free_lot(ring), closing(ring, (0, 1), 2), how_many_closed(ring), \
closed_base(ring), least_closed(ring)]
[True, False, (0, 1), (0, 1, 2), 1, [(0, 1, 2)], (0, 1, 2)]
>>> from keytellers.tables import first_table, how_many, is_told, settle, values_of
>>> [values_of(ring, (1, 2, 4)), first_table(ring, (3, 6, 5)), settle(ring, (1, 0, 0)), how_many(ring, 3, (3, 6, 5))]
[(3, 6, 5), (0, 3, 5), ('lot', (0, 1, 2)), 8]
>>> from keytellers.cores import core, is_road, road, table_back
>>> row = book(3, [(0, 1), (1, 2)])
>>> [core(ring), core(row), road(row), table_back(row, (5, 1), road(row)), is_road(row, ((1, 1),))]
[(0, 1, 2), (), ((0, 0), (1, 1)), (4, 1, 0), False]
>>> from keytellers.seats import first_seats, is_seated, is_short, least_short, most_seated
>>> full = book(2, [(0, 1), (0,), (1,)])
>>> [first_seats(ring), most_seated(full), least_short(full), is_short(full, (1,)), is_seated(ring, (0, 1), (1, 2))]
[(0, 1, 2), (0, 1), (0, 1, 2), False, True]
>>> from keytellers.chains import all_in, behind, chain, is_chain, reached
>>> [chain(full, (0, None, None), 1), behind(full, (0, None, None), ((1, 0), (0, 1))), chain(full, (1, 0, None), 2), \
reached(full, (1, 0, None), 2), all_in(full)]
[((1, 0), (0, 1)), (1, 0, None), None, (0, 1, 2), (1, 0, None)]
>>> from keytellers.choosers import chooser, chosen, key_of, number_of
>>> [chooser(row), [chosen(row, (0, 0, 0), key) for key in (0, 1)], number_of(row, (0, 0, 0), 1), \
key_of(row, (0, 0, 0), 0)]
[(0, 0, 0), [0, 1], 1, 0]
>>> from keytellers.mixings import book_of, least_peeled, least_seed, mark_of, row_of, seeded
>>> mix = (3, 7, ((1, 0), (2, 1)), (3, 2))
>>> [row_of(mix, 4), mark_of(mix, 2, 4), book_of(mix, (4, 5, 6)), seeded(mix, 1), least_seed(mix, (4, 5, 6), 3)]
[(1, 2), 0, (3, ((1, 2), (1, 2), (0,))), (3, 7, ((4, 1), (0, 2)), (3, 3)), ('seed', 2)]
>>> from keytellers.changes import changed, fewest, is_enough
>>> [fewest(row, (4, 1, 0), (5, 0)), is_enough(row, (4, 1, 0), (5, 0), (0,)), changed((1, 2), (1, 3))]
[((2,), (4, 1, 1)), False, (1,)]
>>> from keytellers.room import bits_of, least_bits, share, ways
>>> [bits_of(row, 8), share(row, 8), ways(5, 2), least_bits(8, 1, 0), least_bits(8, 1, 1)]
[24, (2, 3), 10, 3, 2]
>>> from keytellers.texts import show_book, show_mixing, show_placing, show_road
>>> [show_book(row), show_placing((0, None)), show_road(road(row)), show_mixing(mix)]
['book 3\\n0 1\\n1 2', '0 *', '0-0 1-1', '3 7 : 1 0, 2 1 : 3 2']
"""


README = os.path.join(os.path.dirname(os.path.dirname(os.path.abspath(__file__))), "README.md")


class Examples(unittest.TestCase):
    def run_text(self, text, many):
        test = doctest.DocTestParser().get_doctest(text, {}, "examples", None, 0)
        printed = []
        results = doctest.DocTestRunner(verbose=False).run(test, out=printed.append)
        self.assertEqual(results.failed, 0, "".join(printed))
        self.assertEqual(results.attempted, many)

    def test_examples(self):
        self.run_text(EXAMPLES, 28)

    def test_readme(self):
        with open(README, encoding="utf-8") as file:
            self.run_text(file.read().replace("```", ""), 16)


if __name__ == "__main__":
    unittest.main()
