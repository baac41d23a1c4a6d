"""consoles.py: named books, what takes them back, and orders."""

import random
import unittest

from keytellers.books import part, with_key, without_key
from keytellers.chains import all_in
from keytellers.consoles import Console
from keytellers.cores import core, road
from keytellers.errors import (
    InvalidBook, InvalidKey, InvalidLot, InvalidName, InvalidNumber, InvalidRow, InvalidTable, InvalidValues,
    NoSeats, NoTable, NothingToUndo, TellError, Unorderly, Unreadable, UnknownName,
)
from keytellers.lots import is_free, least_closed
from keytellers.seats import first_seats, least_short
from keytellers.tables import first_table, how_many, told
from keytellers.texts import show_book
from tests.helpers import Case, some_books
from tests.test_books import NO_BOOKS, RING

FULL = (2, ((0, 1), (0,), (1,)))
ROW = (3, ((0, 1), (1, 2)))
EMPTY = (1, ())
BIGGEST = 10 ** 18 - 1
NAMES = ("a", "z", "ring", "book", "undo", "names", "abcdefgh", "zzzzzzzz", "no")
NO_NAMES = ("", " ", "abcdefghi", "A", "Ring", "ring1", "1", "a b", "a ", " a", "a\n", "a-b", "*", "-", "a_b", "a.b")
NO_TEXTS = (None, True, False, 0, 1, b"ring", ["ring"], ("ring",), {"ring": 1}, {"ring"}, 1.0, [], (), {})
BOOKS = {"ring": RING, "full": FULL, "row": ROW, "empty": EMPTY}


class ConsoleCase(Case):
    def console(self):
        told = Console()
        for name, book in BOOKS.items():
            self.same(told.keep(name, book), None)
        return told

    def holds(self, console, books):
        """A console has just these books."""
        self.same(console.names(), sorted(books))
        for name, book in books.items():
            self.same(console.book(name), book)
        self.same(console.order("names"), "\n".join(sorted(books)) or "none")

    def denies(self, error, value, way):
        with self.assertRaises(error) as caught:
            way()
        self.assertIs(type(caught.exception), error)
        self.same(caught.exception.value, value)

    def denies_order(self, error, value, text, books=None):
        """An order raises this, and changes nothing: what there is stays, and so does what can be taken back."""
        console = self.console()
        console.keep("last", ROW)
        with self.subTest(text=text):
            self.denies(error, value, lambda: console.order(text))
            self.denies(error, value, lambda: console.order(text=text))
            self.holds(console, {**BOOKS, "last": ROW})
            console.undo()
            self.holds(console, BOOKS)


class Calls(ConsoleCase):
    def test_none_at_first(self):
        self.holds(Console(), {})

    def test_keep_and_book(self):
        for name in NAMES:
            console = Console()
            self.same(console.keep(name, RING), None)
            self.holds(console, {name: RING})
            self.same(console.keep(book=FULL, name=name), None)
            self.holds(console, {name: FULL})
            self.same(console.book(name=name), FULL)

    def test_names(self):
        console = Console()
        for name in ("row", "b", "a", "ab", "full"):
            console.keep(name, ROW)
        self.same(console.names(), ["a", "ab", "b", "full", "row"])
        told = console.names()
        told.append("spoilt")
        told[0] = "spoilt"
        self.same(console.names(), ["a", "ab", "b", "full", "row"])
        self.assertIsNot(console.names(), console.names())
        self.same(console.order("names"), "a\nab\nb\nfull\nrow")

    def test_drop(self):
        console = self.console()
        self.same(console.drop("ring"), None)
        self.holds(console, {name: book for name, book in BOOKS.items() if name != "ring"})
        self.denies(UnknownName, "ring", lambda: console.book("ring"))
        self.denies(UnknownName, "ring", lambda: console.drop(name="ring"))
        for name in ("full", "row", "empty"):
            self.same(console.drop(name=name), None)
        self.holds(console, {})

    def test_no_names(self):
        for name in NO_NAMES + NO_TEXTS:
            for book in (RING, None, (0, ())):
                console = self.console()
                with self.subTest(name=name, book=book):
                    self.denies(InvalidName, name, lambda: console.keep(name, book))
                    self.denies(InvalidName, name, lambda: console.keep(name=name, book=book))
                    self.holds(console, BOOKS)

    def test_names_that_are_not_held(self):
        for name in NO_NAMES + NO_TEXTS + ("rings", "rin", "a"):
            console = self.console()
            with self.subTest(name=name):
                self.denies(UnknownName, name, lambda: console.book(name))
                self.denies(UnknownName, name, lambda: console.book(name=name))
                self.denies(UnknownName, name, lambda: console.drop(name))
                self.denies(UnknownName, name, lambda: console.drop(name=name))
                self.holds(console, BOOKS)

    def test_no_books(self):
        for book in NO_BOOKS:
            console = self.console()
            for name in ("ring", "new"):
                self.denies(InvalidBook, book, lambda: console.keep(name, book))
                self.denies(InvalidBook, book, lambda: console.keep(book=book, name=name))
            self.holds(console, BOOKS)

    def test_two_beside_each_other(self):
        one, other = Console(), Console()
        one.keep("a", RING)
        self.holds(other, {})
        other.order("book a\nbook 1")
        other.keep("b", ROW)
        one.drop("a")
        self.holds(one, {})
        self.holds(other, {"a": EMPTY, "b": ROW})
        one.undo()
        one.undo()
        self.denies(NothingToUndo, 0, one.undo)
        self.holds(one, {})
        self.holds(other, {"a": EMPTY, "b": ROW})


class Undo(ConsoleCase):
    def test_nothing(self):
        console = Console()
        for _ in range(2):
            self.denies(NothingToUndo, 0, console.undo)
            self.denies(NothingToUndo, 0, lambda: console.order("undo"))
        self.holds(console, {})

    def test_keep_and_drop(self):
        console = Console()
        console.keep("a", RING)
        console.keep("a", FULL)
        console.keep("b", ROW)
        console.drop("a")
        console.keep("a", EMPTY)
        for books in ({"b": ROW}, {"a": FULL, "b": ROW}, {"a": FULL}, {"a": RING}, {}):
            self.same(console.undo(), None)
            self.holds(console, books)
        self.denies(NothingToUndo, 0, console.undo)
        # What was taken back does not come back, and what comes behind it can be taken back in its turn.
        console.keep("c", ROW)
        console.undo()
        self.holds(console, {})
        self.denies(NothingToUndo, 0, console.undo)

    def test_what_is_taken_back_is_not_what_undo_did(self):
        console = Console()
        console.keep("a", RING)
        console.keep("b", ROW)
        console.undo()
        console.undo()
        self.holds(console, {})
        self.denies(NothingToUndo, 0, console.undo)

    def test_alike(self):
        # To keep the book that is there already is a change too.
        console = Console()
        console.keep("a", RING)
        console.keep("a", RING)
        console.undo()
        self.holds(console, {"a": RING})
        console.undo()
        self.holds(console, {})

    def test_orders(self):
        console = Console()
        steps = [
            ("book a\nbook 3\n0 1\n1 2", {"a": ROW}),
            ("with b a 2 0", {"a": ROW, "b": RING}),
            ("without a b 1", {"a": (3, ((0, 1), (0, 2))), "b": RING}),
            ("part b b 0 1", {"a": (3, ((0, 1), (0, 2))), "b": ROW}),
            ("drop a", {"b": ROW}),
            ("with b b 0", {"b": (3, ((0, 1), (1, 2), (0,)))}),
        ]
        for text, books in steps:
            self.same(console.order(text), "done")
            self.holds(console, books)
        for _, books in [*steps[-2::-1], (None, {})]:
            self.same(console.order("undo"), "done")
            self.holds(console, books)
        self.denies(NothingToUndo, 0, lambda: console.order("undo"))

    def test_behind_errors_and_questions(self):
        console = Console()
        console.keep("a", RING)
        console.keep("a", ROW)
        for text in ("show a", "free a", "names", "table a 1 1", "short a", "core a", "undone", "with b a 3", "drop c",
                     "without b a 2", "part b a 2", "book b\nbook 0", "book b\nx", "book b", "with b c 0", "table a 1"):
            try:
                console.order(text)
            except TellError:
                pass
        for call in (lambda: console.keep("A", RING), lambda: console.keep("b", None), lambda: console.drop("b"),
                     lambda: console.book("b")):
            self.assertRaises(TellError, call)
        self.holds(console, {"a": ROW})
        console.undo()
        self.holds(console, {"a": RING})
        console.undo()
        self.holds(console, {})

    def test_600_changes(self):
        draw = random.Random(49)
        console = Console()
        books = {}
        elder = []
        for _ in range(600):
            name = draw.choice(["a", "b", "c", "abcdefgh"])
            kind = draw.choice(["keep", "keep", "drop", "undo", "order", "order drop", "order undo", "with", "without"])
            m, rows = books.get(name, EMPTY)
            if kind in ("undo", "order undo"):
                if not elder:
                    self.assertRaises(NothingToUndo, console.undo)
                    continue
                self.same(console.undo() if kind == "undo" else console.order("undo"),
                          None if kind == "undo" else "done")
                books = elder.pop()
                self.holds(console, books)
                continue
            after = dict(books)
            if kind in ("keep", "order"):
                after[name] = draw.choice([RING, FULL, ROW, EMPTY])
                if kind == "keep":
                    console.keep(name, after[name])
                else:
                    console.order(f"book {name}\n{show_book(after[name])}")
            elif name not in books or kind == "without" and not rows:
                # The call raises an error, and nothing is there to be taken back.
                text = {"with": f"with {name} {name} 0", "without": f"without {name} {name} 0"}.get(kind, f"drop {name}")
                self.assertRaises(TellError, console.order, text)
                self.holds(console, books)
                continue
            elif kind == "with":
                after[name] = with_key((m, rows), [0])
                console.order(f"with {name} {name} 0")
            elif kind == "without":
                after[name] = without_key((m, rows), 0)
                console.order(f"without {name} {name} 0")
            else:
                del after[name]
                console.drop(name) if kind == "drop" else console.order(f"drop {name}")
            elder.append(books)
            books = after
            self.holds(console, books)
        while elder:
            console.undo()
            books = elder.pop()
        self.holds(console, {})
        self.denies(NothingToUndo, 0, console.undo)

    def test_600_kept(self):
        console = Console()
        for n in range(600):
            console.keep("a", (n + 1, ((n,),)))
        for n in range(599, 0, -1):
            console.undo()
            self.same(console.book("a"), (n, ((n - 1,),)))
        console.undo()
        self.holds(console, {})


class Orders(ConsoleCase):
    def asks(self, answers):
        for text, answer in answers.items():
            console = self.console()
            with self.subTest(text=text):
                for _ in range(2):
                    self.same(console.order(text), answer)
                    self.same(console.order(text=text), answer)
                self.holds(console, BOOKS)
                # Nothing was changed: what was kept last is what is taken back.
                console.undo()
                self.holds(console, {name: book for name, book in BOOKS.items() if name != "empty"})

    def makes(self, text, **books):
        console = self.console()
        with self.subTest(text=text):
            self.same(console.order(text), "done")
            self.holds(console, {**BOOKS, **books})
            console.undo()
            self.holds(console, BOOKS)

    def test_keep(self):
        self.makes("book new\nbook 3\n0 1\n1 2\n0 2", new=RING)
        self.makes("book ring\nbook 1", ring=EMPTY)
        self.makes("book book\nbook 40\n39", book=(40, ((39,),)))
        self.makes("with new ring 2", new=(3, RING[1] + ((2,),)))
        self.makes("with ring ring 2 0 2 1", ring=(3, RING[1] + ((0, 1, 2),)))
        self.makes("with new empty 0", new=(1, ((0,),)))
        self.makes("without new ring 0", new=(3, ((1, 2), (0, 2))))
        self.makes("without full ring 2", full=ROW)
        self.makes("part new ring 0 2", new=(3, ((0, 1), (0, 2))))
        self.makes("part ring ring -", ring=(3, ()))
        self.makes("part with ring 0 1 2", **{"with": RING})
        self.makes("part empty empty -", empty=EMPTY)

    def test_drop(self):
        console = self.console()
        self.same(console.order("drop ring"), "done")
        self.same(console.order(text="drop full"), "done")
        self.holds(console, {"row": ROW, "empty": EMPTY})
        self.same(console.order("undo"), "done")
        self.holds(console, {"row": ROW, "empty": EMPTY, "full": FULL})

    def test_show(self):
        self.asks({"show ring": "book 3\n0 1\n1 2\n0 2", "show empty": "book 1", "show full": "book 2\n0 1\n0\n1"})

    def test_free_and_closed(self):
        self.asks({"free ring": "no", "free row": "yes", "free empty": "yes", "free full": "no",
                   "closed ring": "0 1 2", "closed row": "no", "closed empty": "no", "closed full": "0 1 2"})

    def test_tables(self):
        self.asks({
            "table ring 3 6 5": "0 3 5", "table ring 1 0 0": "no", "table ring 0 0 0": "0 0 0", "table row 5 1": "0 5 4",
            "table empty -": "0", f"table row {BIGGEST} 0": f"0 {BIGGEST} {BIGGEST}",
            "tables ring 3 3 6 5": "8", "tables ring 3 1 0 0": "0", "tables row 1 1 1": "2", "tables empty 1 -": "2",
            "tables empty 60 -": str(1 << 60), "tables row 60 0 0": str(1 << 60),
            "told ring 0 1 2 4": "3", "told ring 2 1 2 4": "5", "told row 1 0 0 0": "0", f"told row 0 {BIGGEST} 0 0":
            str(BIGGEST), "told full 1 7 0": "7",
        })

    def test_cores_and_seats(self):
        self.asks({
            "core ring": "0 1 2", "core row": "-", "core empty": "-", "road row": "0-0 1-1", "road ring": "-",
            "road empty": "-", "seats ring": "0 1 2", "seats full": "no", "seats row": "0 1", "seats empty": "-",
            "short ring": "no", "short full": "0 1 2", "short empty": "no", "short row": "no", "placed full": "1 0 *",
            "placed ring": "0 1 2", "placed empty": "-", "names": "empty\nfull\nring\nrow",
        })
        self.same(Console().order("names"), "none")

    def test_against_the_functions(self):
        draw = random.Random(50)
        seen = set()

        def words(things):
            return " ".join("*" if one is None else str(one) for one in things) if things else "-"

        def or_no(way, error):
            try:
                return words(way())
            except error:
                return "no"

        for book in some_books(draw, 60, 16, 12, 3) + some_books(draw, 20, 16, 40, 3):
            m, rows = book
            console = Console()
            self.same(console.order(f"book x\n{show_book(book)}"), "done")
            table = tuple(draw.getrandbits(3) for _ in range(m))
            values = tuple(draw.getrandbits(1) for _ in rows)
            closed, short = least_closed(book), least_short(book)
            answers = {
                "show x": show_book(book), "free x": "yes" if is_free(book) else "no",
                "closed x": "no" if closed is None else words(closed),
                f"table x {words(values)}": or_no(lambda: first_table(book, values), NoTable),
                f"tables x 2 {words(values)}": str(how_many(book, 2, values)),
                "core x": words(core(book)), "road x": words([f"{key}-{cell}" for key, cell in road(book)]),
                "seats x": or_no(lambda: first_seats(book), NoSeats), "short x": "no" if short is None else words(short),
                "placed x": words(all_in(book)), "names": "x",
                **{f"told x {key} {words(table)}": str(told(book, table, key)) for key in range(len(rows))},
            }
            for text, answer in answers.items():
                self.same(console.order(text), answer)
                seen.add((text.split(" ")[0], answer == "no"))
            lot = tuple(key for key in range(len(rows)) if draw.random() < 0.5)
            console.order(f"part y x {words(lot)}")
            self.same(console.book("y"), part(book, lot))
            console.order(f"with x x {m - 1} 0 {m - 1}")
            self.same(console.book("x"), with_key(book, [0, m - 1]))
            console.order(f"without y x {len(rows)}")
            self.same(console.book("y"), book)
        for word in ("free", "closed", "table", "seats", "short"):
            self.assertTrue({(word, True), (word, False)} <= seen, word)


class NoOrders(ConsoleCase):
    def test_unorderly(self):
        for text in (
            "", " ", "\n", "\n\n", "x", "hello", "Names", "NAMES", "names ", " names", "names ring", "name", "undo ",
            "undo ring", "undo 1", "Undo", "undo undo", "drop", "drop ", "drop  ring", "drop ring ", "drop ring full",
            "drop Ring", "drop 1", "drop abcdefghi", "drop -", "show", "show ", "show ring ring", "show ring 0", "show  ring",
            "show ring ", " show ring", "show r1", "show abcdefghi", "show RING", "free", "free ring 1", "closed", "core",
            "core ring -", "road", "road ring 0", "seats", "seats ring 0", "short", "placed", "placed ring *", "book",
            "table", "table ring", "table ring ", "table  ring 1 0 0", "table ring  1 0 0", "table ring 1  0 0",
            "table ring 1 0 0 ", "table ring 01 0 0", "table ring 1,0,0", "table ring x", "table ring - -", "table ring 1 -",
            "table ring * 0 0", "table 1 0 0", "table ring +1 0 0", "table ring 1" + "0" * 18, "table Ring 1 0 0",
            "tables ring", "tables ring 3", "tables ring 3 ", "tables ring - 1 0 0", "tables ring 03 1 0 0",
            "tables ring x 1 0 0", "tables ring  3 1 0 0", "tables ring 3  1 0 0", "tables 3 ring 1 0 0", "tables ring -3 1",
            "told ring", "told ring 0", "told ring - 1 2 4", "told ring 00 1 2 4", "told ring 0 1 2 04", "told ring 0 ",
            "told ring x 1 2 4", "told ring 0 1 2 4 ", "told ring 0-1 2 4", "told ring 1" + "0" * 18 + " 1 2 4",
            "with", "with new", "with new ring", "with new ring ", "with new ring 00", "with new ring 0  1",
            "with new ring 0,1", "with New ring 0", "with new Ring 0", "with new 0", "with abcdefghi ring 0",
            "with new ring -1", "with new  ring 0", "without", "without new ring", "without new ring ", "without new ring -",
            "without new ring 0 1", "without new ring 00", "without new ring x", "without new 0", "without N ring 0",
            "part", "part new ring", "part new ring ", "part new ring x", "part new ring 0  1", "part new ring - 0",
            "part new 0", "part n1 ring 0", "book new", "book new ", "book ring 3", "books", "withx new ring 0",
            "free\tring", "free-ring", "order show ring", "keep ring", "undo\tring",
        ):
            self.denies_order(Unorderly, text, text)

    def test_more_lines(self):
        for text in (
            "names\n", "names\nnames", "undo\n", "undo\nundo", "drop ring\n", "show ring\n", "show ring\nshow ring",
            "free ring\n0", "closed ring\n", "table ring 3 6 5\n", "table ring\n3 6 5", "tables ring 3 3 6 5\n",
            "told ring 0 1 2 4\n", "core ring\n", "road row\n", "seats ring\n", "short ring\n", "placed ring\n",
            "with new ring 0\n", "with new ring 0\n1", "without new ring 0\n", "part new ring 0\n", "part new ring\n0",
            "\nnames", "\nshow ring", "drop nobody\n", "with new nobody 0\n",
            "\nbook new\nbook 3", "book\nbook 3", "book \nbook 3", "book New\nbook 3", "book new \nbook 3",
            "book  new\nbook 3", "book new ring\nbook 3", "book abcdefghi\nbook 3", "book 3\nbook 3", "book 3\n0 1",
        ):
            self.denies_order(Unorderly, text, text)

    def test_unknown_names(self):
        for text, name in {
            "drop nobody": "nobody", "show rings": "rings", "free a": "a", "closed a": "a", "table a 1": "a",
            "tables a 1 1": "a", "told a 0 1": "a", "core a": "a", "road a": "a", "seats a": "a", "short a": "a",
            "placed a": "a", "with new a 0": "a", "with ring a 0": "a", "without new a 0": "a", "part new a -": "a",
            # Ahead of what the functions would say.
            "with a b 99": "b", "tables a 0 1": "a", "told abcdefgh 99 -": "abcdefgh", "part a b 3 2": "b",
        }.items():
            self.denies_order(UnknownName, name, text)

    def test_unreadable_books(self):
        for text, n in {
            "book new\n": 1, "book new\n\nbook 3": 1, "book new\nbook": 1, "book new\nbook 03": 1, "book new\nbook 3 ": 1,
            "book new\n0 1": 1, "book new\nbook new\nbook 3": 1, "book new\nbook 3\n": 2, "book new\nbook 3\n0\n": 3,
            "book new\nbook 3\n-": 2, "book new\nbook 3\n0 1\n0  1": 3, "book new\nbook 3\n0 1\n1 2\nx\ny": 4,
            "book new\nbook 3\n3": 0, "book new\nbook 3\n0 0": 0, "book ring\nbook 3\n1 0": 0, "book ring\nnames": 1,
        }.items():
            self.denies_order(Unreadable, n, text)

    def test_errors_of_the_functions(self):
        for text, error, value in (
            ("with new ring 3", InvalidRow, (3,)), ("with new ring 0 1 40", InvalidRow, (0, 1, 40)),
            ("with new ring -", InvalidRow, ()), ("with ring empty 1", InvalidRow, (1,)),
            ("without new ring 3", InvalidKey, 3), ("without new empty 0", InvalidKey, 0),
            (f"without new ring {BIGGEST}", InvalidKey, BIGGEST),
            ("part new ring 1 0", InvalidLot, (1, 0)), ("part new ring 0 0", InvalidLot, (0, 0)),
            ("part new ring 3", InvalidLot, (3,)), ("part ring empty 0", InvalidLot, (0,)),
            ("table ring 1 0", InvalidValues, (1, 0)), ("table ring -", InvalidValues, ()),
            ("table empty 0", InvalidValues, (0,)), ("table ring 0 0 0 0", InvalidValues, (0, 0, 0, 0)),
            ("tables ring 0 3 6 5", InvalidNumber, 0), ("tables ring 0 3", InvalidNumber, 0),
            ("tables ring 1 3", InvalidValues, (3,)), ("tables ring 2 3 6 5", InvalidValues, (3, 6, 5)),
            ("tables ring 60 -", InvalidValues, ()), ("tables empty 0 -", InvalidNumber, 0),
            ("told ring 3 1 2 4", InvalidKey, 3), ("told empty 0 1", InvalidKey, 0),
            ("told ring 0 1 2", InvalidTable, (1, 2)), ("told ring 3 1 2", InvalidTable, (1, 2)),
            ("told ring 0 -", InvalidTable, ()), ("told ring 9 1 2 4 0", InvalidTable, (1, 2, 4, 0)),
        ):
            self.denies_order(error, value, text)


if __name__ == "__main__":
    unittest.main()
