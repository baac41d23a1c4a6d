"""The examples of the document, as it prints them."""

import doctest
import unittest

EXAMPLES = """
>>> from keytellers.words import added, added_all, bits, is_word, width
>>> [added(6, 3), added_all([1, 2, 4, 1]), bits(10), width(0), width(8), is_word(3, 8)]
[5, 6, (1, 3), 1, 4, False]
>>> from keytellers.books import book, cells_of, is_book, keys_of, part, with_key, without_key
>>> ring = book(3, [(0, 1), (2, 1), (0, 2)])
>>> [ring, keys_of(ring, 1), cells_of(ring, (0, 2)), without_key(ring, 0), with_key(ring, [2, 2]), part(ring, (1,))]
[(3, ((0, 1), (1, 2), (0, 2))), (0, 1), (0, 1, 2), (3, ((1, 2), (0, 2))), (3, ((0, 1), (1, 2), (0, 2), (2,))), \
(3, ((1, 2),))]
>>> from keytellers.lots import closed_base, closing, free_lot, how_many_closed, is_closed, is_free, least_closed
>>> [is_closed(ring, (0, 1, 2)), is_free(ring), free_lot(ring), closing(ring, (0, 1), 2), how_many_closed(ring), \
closed_base(ring), least_closed(ring)]
[True, False, (0, 1), (0, 1, 2), 1, [(0, 1, 2)], (0, 1, 2)]
"""


class Examples(unittest.TestCase):
    def test_examples(self):
        test = doctest.DocTestParser().get_doctest(EXAMPLES, {}, "examples", None, 0)
        printed = []
        results = doctest.DocTestRunner(verbose=False).run(test, out=printed.append)
        self.assertEqual(results.failed, 0, "".join(printed))
        self.assertEqual(results.attempted, 7)


if __name__ == "__main__":
    unittest.main()
