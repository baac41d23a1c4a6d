"""Consoles: books kept under names, and orders that ask things of them and change them."""

from keytellers.answers import answer_of, made_book
from keytellers.books import check_book
from keytellers.errors import InvalidName, NothingToUndo, Unorderly, UnknownName
from keytellers.orders import is_name, order_of
from keytellers.readers import read_book

# The orders that keep or drop a book, or take that back.
CHANGES = ("book", "with", "without", "part", "drop", "undo")


class Console:
    """Named books, none at first."""

    def __init__(self):
        self._books = {}
        # For each change that is not taken back, the name and the book that it had, or None.
        self._elder = []

    def keep(self, name, book):
        """Keeps a book under a name, in the place of an elder one of the name."""
        if not is_name(name):
            raise InvalidName(name)
        check_book(book)
        self._change(name, book)

    def drop(self, name):
        """Keeps no book under a name any more."""
        self._check_known(name)
        self._change(name, None)

    def undo(self):
        """Takes back the last change that is not taken back."""
        if not self._elder:
            raise NothingToUndo(0)
        name, book = self._elder.pop()
        self._put(name, book)

    def book(self, name):
        """The book of a name."""
        self._check_known(name)
        return self._books[name]

    def names(self):
        """The ascending list of the names."""
        return sorted(self._books)

    def order(self, text):
        """Does what a text says, and returns the answer."""
        line, newline, behind = text.partition("\n")
        asked = order_of(line)
        # Only the book that is to be kept stands on more lines.
        if asked is None or (asked[0] == "book") != (newline != ""):
            raise Unorderly(text)
        word, things = asked
        if word in CHANGES:
            self._carry_out(word, things, behind)
            return "done"
        if word == "names":
            return "\n".join(self.names()) or "none"
        name, *rest = things
        return answer_of(word, self.book(name), rest)

    def _carry_out(self, word, things, behind):
        """Does what the order with this word changes."""
        if word == "undo":
            self.undo()
        elif word == "drop":
            self.drop(things[0])
        elif word == "book":
            self.keep(things[0], read_book(behind))
        else:
            name, elder, thing = things
            self.keep(name, made_book(word, self.book(elder), thing))

    def _change(self, name, book):
        """Puts a book, or none, under a name, so that it can be taken back."""
        self._elder.append((name, self._books.get(name)))
        self._put(name, book)

    def _put(self, name, book):
        """Puts a book, or none, under a name."""
        if book is None:
            del self._books[name]
        else:
            self._books[name] = book

    def _check_known(self, name):
        """Raises UnknownName if no book has the name."""
        if not is_name(name) or name not in self._books:
            raise UnknownName(name)
