"""words.py: promises [1] to [3]."""

import random
import unittest

from keytellers.errors import InvalidNumber, InvalidWord
from keytellers.words import added, added_all, bits, is_word, width
from tests.helpers import Case, NO_INTEGERS

NO_WORDS = NO_INTEGERS + (-1, -2, -(1 << 700), -(1 << 20000))
NO_WIDTHS = NO_INTEGERS + (0, -1, -(1 << 700))
PLACES = (0, 1, 2, 3, 7, 8, 31, 32, 59, 60, 61, 63, 64, 65, 127, 128, 500, 999)
WORDS = sorted({0, 1, 2, 3, 5, 10, 12345} | {(1 << place) + step for place in PLACES for step in (-1, 0, 1)})


def sum_bit_by_bit(words, w):
    """The sum as promise [3] says it, of words of w bits."""
    ones = [sum(word // 2 ** place % 2 for word in words) for place in range(w)]
    return sum(2 ** place for place in range(w) if ones[place] % 2 == 1)


class Added(Case):
    def test_small(self):
        for a in range(20):
            for b in range(20):
                self.answers(sum_bit_by_bit([a, b], 6), added, a=a, b=b)

    def test_any_size(self):
        for a in WORDS:
            for b in (0, 1, a, (1 << 700) - 1, 1 << 999):
                self.same(added(a, b), sum_bit_by_bit([a, b], 1001))

    def test_wrong(self):
        self.fails_with_each(InvalidWord, "a", NO_WORDS, added, a=None, b=3)
        self.fails_with_each(InvalidWord, "b", NO_WORDS, added, a=3, b=None)

    def test_first_from_the_left(self):
        a, b = -1, -2
        self.fails(InvalidWord, a, added, a=a, b=b)
        a, b = [1], None
        self.fails(InvalidWord, a, added, a=a, b=b)


class AddedAll(Case):
    def test_none(self):
        self.answers(0, added_all, some=[])
        self.answers(0, added_all, some=())

    def test_one(self):
        for word in WORDS:
            self.answers(word, added_all, some=[word])
            self.answers(word, added_all, some=(word,))

    def test_several_times(self):
        for word in WORDS:
            self.answers(0, added_all, some=[word, word])
            self.answers(word, added_all, some=(word, word, word))
            self.answers(5, added_all, some=[word, 5, word])

    def test_many(self):
        draw = random.Random(1)
        for many in range(12):
            for w in (1, 3, 60, 700):
                words = [draw.randrange(1 << w) for _ in range(many)]
                self.answers(sum_bit_by_bit(words, w), added_all, some=words)
                self.answers(sum_bit_by_bit(words, w), added_all, some=tuple(words))

    def test_wrong(self):
        wrong = [None, True, 0, 5, "", "12", b"12", {}, {1}, {1: 2}, range(3), 1.5]
        for word in NO_WORDS:
            wrong += [[word], (1, word), [1, 2, word, 3]]
        self.fails_with_each(InvalidWord, "some", wrong, added_all)


class Bits(Case):
    def test_words(self):
        for a in WORDS:
            wanted = tuple(place for place in range(1001) if a // 2 ** place % 2 == 1)
            self.answers(wanted, bits, a=a)

    def test_edges(self):
        self.answers((), bits, a=0)
        self.answers((0,), bits, a=1)
        self.answers((1999,), bits, a=1 << 1999)
        self.answers(tuple(range(700)), bits, a=(1 << 700) - 1)

    def test_wrong(self):
        self.fails_with_each(InvalidWord, "a", NO_WORDS, bits)


class Width(Case):
    def test_words(self):
        for a in WORDS:
            wanted = min(w for w in range(1, 1002) if a < 2 ** w)
            self.answers(wanted, width, a=a)

    def test_edges(self):
        self.answers(1, width, a=0)
        self.answers(1, width, a=1)
        self.answers(2, width, a=2)
        self.answers(2000, width, a=(1 << 2000) - 1)
        self.answers(2001, width, a=1 << 2000)

    def test_wrong(self):
        self.fails_with_each(InvalidWord, "a", NO_WORDS, width)


class IsWord(Case):
    def test_words(self):
        for w in (1, 2, 3, 8, 59, 60, 61, 64, 700, 999):
            for told in WORDS:
                self.answers(told < 2 ** w, is_word, w=w, told=told)

    def test_edges(self):
        for w in (1, 60, 2000):
            self.answers(True, is_word, w=w, told=0)
            self.answers(True, is_word, w=w, told=(1 << w) - 1)
            self.answers(False, is_word, w=w, told=1 << w)
            self.answers(False, is_word, w=w, told=(1 << w) + 1)

    def test_no_words(self):
        for told in NO_WORDS:
            for w in (1, 8, 2000):
                with self.subTest(told=told, w=w):
                    self.answers(False, is_word, w=w, told=told)

    def test_wrong(self):
        for told in (0, 7, -1, None, [1]):
            self.fails_with_each(InvalidNumber, "w", NO_WIDTHS, is_word, w=None, told=told)


if __name__ == "__main__":
    unittest.main()
