"""texts.py and readers.py: what is shown, and what is read back from it."""

import random
import re
import unittest

from keytellers.books import is_book
from keytellers.chains import all_in, chain, taken_out
from keytellers.cores import road
from keytellers.errors import Unreadable
from keytellers.filters import filter_of, is_filter
from keytellers.mixings import is_mixing
from keytellers.readers import read_book, read_filter, read_mixing, read_placing, read_road, read_words
from keytellers.texts import show_book, show_filter, show_mixing, show_placing, show_road, show_words
from tests.helpers import Case, some_books
from tests.test_books import GOOD_BOOKS, RING, WIDEST
from tests.test_cores import LINE, LINE_ROAD
from tests.test_mixings import GOOD_MIXINGS, LAST, MIX

BIGGEST = 10 ** 18 - 1
EVERY_60 = tuple(range(60))
ALL_60 = (60, (EVERY_60,) * 60)
LARGE_MIXING = (60, BIGGEST, tuple((BIGGEST - 1 - key, key) for key in range(60)), (BIGGEST - 1, 0))
MESH = (MIX, 3, (0, 7, 5))

BOOKS = GOOD_BOOKS[::4] + [ALL_60, (60, ()), (BIGGEST, ((0, BIGGEST - 1), (BIGGEST - 1,))), RING, WIDEST]
WORDS = [(), (0,), (0, 0), (5, 1, 0), (BIGGEST,), (BIGGEST,) * 60, (10, 100, 101), tuple(range(60)), (7, 7, 7)]
PLACINGS = [(), (None,), (0,), (0, None), (None, None), (None, 0, None), (3, 1, None, 2), (BIGGEST, None, 0),
            (None,) * 60, EVERY_60, EVERY_60[::-1], tuple(BIGGEST - key for key in range(60))]
ROADS = [(), ((0, 0),), ((0, 0), (1, 1)), ((3, 10), (10, 3)), ((0, 1), (0, 1)), ((BIGGEST, BIGGEST),) * 60, LINE_ROAD]
MIXINGS = [told for told in GOOD_MIXINGS if told[1] <= BIGGEST] + [LARGE_MIXING, (BIGGEST, 2, ((1, 0),), (0, 1))]
FILTERS = [MESH, (LAST, 60, (BIGGEST,) * 40), (LARGE_MIXING, 60, tuple(range(60))), (MIX, 1, (0, 1, 0)),
           (LARGE_MIXING, BIGGEST, (BIGGEST,) * 60), filter_of(MIX, 3, [5, 6])]
KINDS = (
    (show_book, read_book, "book", BOOKS), (show_words, read_words, "words", WORDS),
    (show_placing, read_placing, "placing", PLACINGS), (show_road, read_road, "told", ROADS),
    (show_mixing, read_mixing, "mixing", MIXINGS), (show_filter, read_filter, "mesh", FILTERS),
)

# How lines look, by which the slow readers of the tests tell what can stand.
N = "(?:0|[1-9][0-9]{0,17})"
LINES = {
    "book": f"book {N}", "row": f"{N}(?: {N})*", "words": f"-|{N}(?: {N})*",
    "placing": rf"-|(?:\*|{N})(?: (?:\*|{N}))*", "road": f"-|{N}-{N}(?: {N}-{N})*",
    "mixing": f"{N} {N} : {N} {N}(?:, {N} {N})* : {N} {N}", "filter": f"filter {N}",
}


def stands(line, kind):
    return re.fullmatch(LINES[kind], line) is not None


def integers(line):
    return tuple(int(word) for word in re.findall("[0-9]+", line))


def pairs(line):
    found = integers(line)
    return tuple(zip(found[::2], found[1::2]))


def mixing_by_signs(line):
    (m, p), *middle, mark = pairs(line)
    return (m, p, tuple(middle), mark)


def placing_by_signs(line):
    return () if line == "-" else tuple(None if word == "*" else int(word) for word in line.split(" "))


def one_line(text, kind, made, holds=lambda told: True):
    """What a text of one line has, or the number of the line that is wrong."""
    lines = text.split("\n")
    if not stands(lines[0], kind) or not holds(made(lines[0])):
        return ("wrong", 1)
    return ("wrong", 2) if len(lines) > 1 else ("right", made(lines[0]))


def slow_book(text):
    lines = text.split("\n")
    for n, line in enumerate(lines):
        if not stands(line, "row" if n else "book"):
            return ("wrong", n + 1)
    told = (integers(lines[0])[0], tuple(integers(line) for line in lines[1:]))
    return ("right", told) if is_book(told) else ("wrong", 0)


def slow_filter(text):
    lines = text.split("\n")
    for n, kind in enumerate(("filter", "mixing", "words")):
        if n >= len(lines) or not stands(lines[n], kind):
            return ("wrong", n + 1)
        if kind == "mixing" and not is_mixing(mixing_by_signs(lines[n])):
            return ("wrong", n + 1)
    if len(lines) > 3:
        return ("wrong", 4)
    told = (mixing_by_signs(lines[1]), integers(lines[0])[0], integers(lines[2]))
    return ("right", told) if is_filter(told) else ("wrong", 0)


def are_unlike(placing):
    return len(set(placing) - {None}) == len(placing) - placing.count(None)


SLOW = {
    read_book: slow_book, read_filter: slow_filter,
    read_words: lambda text: one_line(text, "words", integers),
    read_placing: lambda text: one_line(text, "placing", placing_by_signs, are_unlike),
    read_road: lambda text: one_line(text, "road", pairs),
    read_mixing: lambda text: one_line(text, "mixing", mixing_by_signs, is_mixing),
}


def bent(text):
    """Texts that come of one by a sign more, another one, one less, two exchanged, and by lines likewise."""
    signs = " 012379-+*:,.~aA\n"
    for at in range(len(text) + 1):
        yield from (text[:at] + sign + text[at:] for sign in signs)
        yield from (text[:at] + sign + text[at + 1:] for sign in signs)
        yield text[:at] + text[at + 1:]
        yield text[:at] + text[at + 1:at + 2] + text[at:at + 1] + text[at + 2:]
    lines = text.split("\n")
    for at in range(len(lines) + 1):
        for more in ("", "-", "*", "0", "0 1", "0 0", "1 0", "book 3", "filter 3", "3 7 : 1 0 : 3 2", " ", "x"):
            yield "\n".join(lines[:at] + [more] + lines[at:])
            yield "\n".join(lines[:at] + [more] + lines[at + 1:])
        yield "\n".join(lines[:at] + lines[at + 1:])
        yield "\n".join(lines[:at])
        yield "\n".join(lines[:at] + lines[at:at + 1] + lines[at:])
        yield "\n".join(lines[:at] + lines[at + 1:at + 2] + lines[at:at + 1] + lines[at + 2:])


class Texts(Case):
    def test_show_book(self):
        self.answers("book 3\n0 1\n1 2\n0 2", show_book, book=RING)
        self.answers("book 1", show_book, book=(1, ()))
        self.answers("book 40\n39", show_book, book=(40, ((39,),)))
        line = " ".join(str(cell) for cell in range(60))
        self.answers("book 60" + ("\n" + line) * 60, show_book, book=ALL_60)
        self.answers("book 999999999999999999\n0 999999999999999998", show_book,
                     book=(BIGGEST, ((0, BIGGEST - 1),)))

    def test_show_words(self):
        for words, text in (((), "-"), ((0,), "0"), ((5, 0, 1), "5 0 1"), ((BIGGEST, 0), "9" * 18 + " 0")):
            self.answers(text, show_words, words=words)
        self.answers(" ".join(["9" * 18] * 60), show_words, words=(BIGGEST,) * 60)

    def test_show_placing(self):
        for placing, text in (((), "-"), ((None,), "*"), ((0,), "0"), ((0, None), "0 *"), ((None, 2, 0), "* 2 0")):
            self.answers(text, show_placing, placing=placing)
        self.answers(" ".join("*" * 60), show_placing, placing=(None,) * 60)

    def test_show_road(self):
        for told, text in (
            ((), "-"), (((0, 0),), "0-0"), (((0, 0), (1, 1)), "0-0 1-1"), (((12, 3), (4, 0)), "12-3 4-0"),
        ):
            self.answers(text, show_road, told=told)

    def test_show_mixing(self):
        self.answers("3 7 : 1 0, 2 1 : 3 2", show_mixing, mixing=MIX)
        self.answers("1 2 : 1 1 : 0 1", show_mixing, mixing=(1, 2, ((1, 1),), (0, 1)))
        self.answers("40 1000 : " + ", ".join(["999 999"] * 20) + " : 999 999", show_mixing, mixing=LAST)

    def test_show_filter(self):
        self.answers("filter 3\n3 7 : 1 0, 2 1 : 3 2\n0 7 5", show_filter, mesh=MESH)
        self.answers("filter 60\n1 2 : 1 1 : 0 1\n0", show_filter, mesh=((1, 2, ((1, 1),), (0, 1)), 60, (0,)))


class ThereAndBack(Case):
    def test_all_kinds(self):
        for show, read, name, things in KINDS:
            for told in things:
                text = show(told)
                self.answers(text, show, **{name: told})
                self.answers(told, read, text=text)
                self.assertRegex(text, r"\A[ -~\n]+\Z")
                self.same(SLOW[read](text), ("right", told))

    def test_what_the_program_tells(self):
        draw = random.Random(46)
        for told in some_books(draw, 40, 40, 40, 4) + [LINE]:
            self.same(read_book(show_book(told)), told)
            self.same(read_road(show_road(road(told))), road(told))
            placing = all_in(told)
            self.same(read_placing(show_placing(placing)), placing)
            for key in range(len(placing)):
                pairs_in = chain(told, taken_out(told, placing, key), key) or ()
                self.same(read_road(show_road(pairs_in)), pairs_in)


class Bent(Case):
    def reads(self, read, text):
        """A text is read, or denied, as the slow reader has it; which of both."""
        outcome, wanted = SLOW[read](text)
        if outcome == "right":
            self.same(read(text), wanted)
            return -1
        with self.assertRaises(Unreadable, msg=repr(text)) as caught:
            read(text)
        self.assertIs(type(caught.exception), Unreadable)
        self.assertEqual((type(caught.exception.value), caught.exception.value), (int, wanted), repr(text))
        return wanted

    def test_all_kinds(self):
        for show, read, _, things in KINDS:
            seen = set()
            for told in things:
                text = show(told)
                if len(text) < 80:
                    for one in bent(text):
                        seen.add(self.reads(read, one))
                    for other in KINDS:
                        seen.add(self.reads(read, other[0](other[3][1])))
            wanted = {read_book: {-1, 0, 1, 2, 3, 4}, read_filter: {-1, 0, 1, 2, 3, 4}}.get(read, {-1, 1, 2})
            self.assertEqual(seen & wanted, wanted, read.__name__)

    def test_bent_twice(self):
        draw = random.Random(47)
        for show, read, _, things in KINDS:
            for told in things:
                text = show(told)
                if len(text) < 60:
                    for one in draw.sample(list(bent(text)), 30):
                        for two in draw.sample(list(bent(one)), 8):
                            self.reads(read, two)

    def test_large(self):
        draw = random.Random(48)
        for show, read, _, things in KINDS:
            for told in things:
                text = show(told)
                if len(text) >= 60:
                    for _ in range(30):
                        at = draw.randrange(len(text))
                        self.reads(read, text[:at] + draw.choice(" 09-+*:,\n") + text[at + draw.choice([0, 1]):])


class Named(Case):
    """What is wrong in a text, as the document and its issues name it."""

    def unreadable(self, read, n, *texts):
        for text in texts:
            for way in self.call(read, {"text": text}):
                with self.subTest(read=read.__name__, text=text):
                    with self.assertRaises(Unreadable) as caught:
                        way()
                    self.assertIs(type(caught.exception), Unreadable)
                    self.same(caught.exception.value, n)

    def test_words(self):
        bad = ("", " ", " 1", "1 ", "1  2", "01", "1 02", "00", "+1", "-1", "1 -", "- -", "--", "*", "1,2", "1, 2",
               "1" + "0" * 18, "0" * 19, "1 x", "x", "1.", "1_0", "0x1", "1\t2", "\n", "\n1", " \n1", "1 \n")
        self.unreadable(read_words, 1, *bad)
        self.unreadable(read_words, 2, "1\n", "-\n", "1 2\n3", "1\n\n", "1\nx", "-\n-")
        self.answers((10 ** 17,), read_words, text="1" + "0" * 17)

    def test_placings(self):
        self.unreadable(read_placing, 1, "", "0 0", "1 * 1", "**", "* *  0", "0 *, 1", "-*", "* -", "- *", "01", "-0",
                        "0-0", "0 0\n", "x\n", " *", "* ", "1" + "0" * 18)
        self.unreadable(read_placing, 2, "0 *\n", "-\n", "*\n*")
        self.answers((None, None), read_placing, text="* *")
        self.answers((0, 3, None, BIGGEST), read_placing, text="0 3 * " + "9" * 18)

    def test_roads(self):
        self.unreadable(read_road, 1, "", "0", "0-", "-0", "0--0", "0-0-0", "0 0", "0-0, 1-1", "0-0  1-1", "0-01",
                        "00-1", "0-*", "*-0", "0 -0", "0- 0", "0-0 -", "- 0-0", " -", "0-0 ", "--", "0-1" + "0" * 18, "0-x\n")
        self.unreadable(read_road, 2, "0-0\n", "-\n", "0-0\n1-1")
        self.answers(((0, 0), (0, 0), (3, 9)), read_road, text="0-0 0-0 3-9")

    def test_mixings(self):
        self.unreadable(
            read_mixing, 1, "", "-", "3 7", "3 7 : 1 0", "3 7 : 1 0 : 3", "3 7 : 1 : 3 2", "3 : 1 0 : 3 2",
            "3 7 : : 3 2", "3 7 :  : 3 2", "3 7 : 1 0,2 1 : 3 2", "3 7 : 1 0 , 2 1 : 3 2", "3 7 : 1 0,  2 1 : 3 2",
            "3 7 : 1 0 2 1 : 3 2", "3 7: 1 0 : 3 2", "3 7 :1 0 : 3 2", "3 7 : 1 0 :3 2", "3 7 : 1 0 : 3 2 ",
            " 3 7 : 1 0 : 3 2", "3 7 : 1 0 : 3 2 : 1", "3 7 : 1 0, : 3 2", "3 7 : , 1 0 : 3 2", "3  7 : 1 0 : 3 2",
            "3 7 : 1 0 : 3 2, 1 1", "3, 7 : 1 0 : 3 2", "03 7 : 1 0 : 3 2", "3 7 : +1 0 : 3 2", "3 7 - 1 0 - 3 2",
            # No mixings, though they look like some.
            "0 7 : 1 0 : 3 2", "3 1 : 0 0 : 0 0", "3 0 : 0 0 : 0 0", "3 7 : 7 0 : 3 2", "3 7 : 1 7 : 3 2",
            "3 7 : 1 0 : 7 2", "3 7 : 1 0 : 3 7", "3 7 : 1 7 : 3 2\n", "3 1000000000000000000 : 1 0 : 3 2",
        )
        self.unreadable(read_mixing, 2, "3 7 : 1 0 : 3 2\n", "3 7 : 1 0 : 3 2\n3 7 : 1 0 : 3 2", "3 7 : 1 0 : 3 2\nx")

    def test_books(self):
        self.unreadable(read_book, 1, "", "\n0", "book", "book ", "book  3", " book 3", "book 3 ", "book 03", "book -3",
                        "book +3", "book *", "book -", "book x", "3", "Book 3", "books 3", "book 3 4", "bok 3\n0",
                        "book 1" + "0" * 18, "filter 3", "0 1", "book 3\t\n0")
        self.unreadable(read_book, 2, "book 3\n", "book 3\n\n0", "book 3\n-", "book 3\n*", "book 3\n 0", "book 3\n0 ",
                        "book 3\n0  1", "book 3\n00", "book 3\n0,1", "book 3\n0-1", "book 3\nbook 3", "book 3\nx\ny",
                        "book 3\n1" + "0" * 18, "book 3\n+0", "book 3\n-1")
        self.unreadable(read_book, 3, "book 3\n0\n", "book 3\n5 5\nx", "book 3\n1 0\n\n0", "book 3\n0\n01")
        self.unreadable(read_book, 62, "book 60" + "\n0" * 60 + "\n")
        # The lines can stand, but they are no rows of the book, or there is no book with so few cells.
        self.unreadable(read_book, 0, "book 3\n3", "book 3\n1 0", "book 3\n0 0", "book 3\n0\n0 1 2 3", "book 1\n0\n1",
                        "book 3\n" + "9" * 18, "book 0", "book 0\n0", "book 3\n0\n1 1\n2")
        self.answers((3, ((0,), (0,))), read_book, text="book 3\n0\n0")

    def test_filters(self):
        first, second, third = show_filter(MESH).split("\n")
        for bad in (
            "", "filter", "filter ", "filter  3", "filter 03", "filter x", "filter -3", "filter 3 3", "3", "book 3",
        ):
            self.unreadable(read_filter, 1, "\n".join([bad, second, third]), bad, "\n".join([bad, "x", "", ""]))
        for bad in ("", "-", "3 7", "3 7 : 1 0", third, first, second + " ", "3 7 : 1 0 : 3 2 : 1 1"):
            self.unreadable(read_filter, 2, "\n".join([first, bad, third]), "\n".join([first, bad]),
                            "\n".join([first, bad, "x", "y"]))
        for bad in ("", " ", "x", "0 7 5 ", "0  7 5", "0,7,5", "0 7 05", "0 7 -", "*", second):
            self.unreadable(read_filter, 3, "\n".join([first, second, bad]), "\n".join([first, second, bad, ""]))
        # Lines that lack.
        self.unreadable(read_filter, 2, first, "filter 0")
        self.unreadable(read_filter, 3, "\n".join([first, second]), "filter 0\n1 2 : 0 0 : 0 0")
        # Lines that are too many, be the whole a filter or none.
        for more in ("", "0", "x", third):
            self.unreadable(read_filter, 4, "\n".join([first, second, third, more]),
                            "\n".join([first, second, "0", more]), "\n".join([first, second, third, more, more]))
        # No filters, of lines that can stand: words too wide, too many, too few or none, no bits.
        for w, words in (
            (2, "0 7 5"), (1, "0 2 0"), (3, "0 7"), (3, "0"), (3, "0 7 5 0"), (3, "-"), (3, "0 8 0"), (0, "0 0 0"),
        ):
            self.unreadable(read_filter, 0, f"filter {w}\n{second}\n{words}")

    def test_filters_without_a_mixing(self):
        # The second line looks like a mixing but shows none, whatever the other lines come to.
        first, second, third = show_filter(MESH).split("\n")
        for bad in (
            "0 7 : 1 0 : 3 2", "0 7 : 0 0 : 0 0", "3 1 : 0 0 : 0 0", "3 0 : 0 0 : 0 0", "0 0 : 0 0 : 0 0",
            "3 7 : 7 0 : 3 2", "3 7 : 1 7 : 3 2", "3 7 : 1 0, 2 7 : 3 2", "3 7 : 1 0, 7 1 : 3 2", "3 7 : 1 0 : 7 2",
            "3 7 : 1 0 : 3 7",
        ):
            self.unreadable(read_mixing, 1, bad)
            for head in (first, "filter 0", "filter 1"):
                self.unreadable(read_filter, 2, f"{head}\n{bad}", *[
                    f"{head}\n{bad}\n{rest}" for rest in (third, "-", "0", "01", "", "x", "0\n0", "x\ny", "0\n")])
            self.unreadable(read_filter, 1, f"filter\n{bad}\n{third}", f"filter 03\n{bad}")
        self.unreadable(read_filter, 2, "filter 37\n2 1 : 0 0 : 0 0\n01", "filter 3\n0 7 : 1 0 : 0 0\n-")
        # The least numbers and the greatest ones with which it shows one.
        self.answers(((1, 2, ((1, 1),), (1, 1)), 1, (1,)), read_filter, text="filter 1\n1 2 : 1 1 : 1 1\n1")
        self.answers(((3, 7, ((6, 6), (0, 0)), (6, 6)), 3, (0, 7, 5)), read_filter,
                     text="filter 3\n3 7 : 6 6, 0 0 : 6 6\n0 7 5")


if __name__ == "__main__":
    unittest.main()
