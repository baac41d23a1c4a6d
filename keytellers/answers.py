"""Answers: what orders answer of a book, as texts, and which books orders make of one."""

from keytellers.books import part, with_key, without_key
from keytellers.chains import all_in
from keytellers.cores import core, road
from keytellers.errors import NoSeats, NoTable
from keytellers.lots import is_free, least_closed
from keytellers.seats import first_seats, least_short
from keytellers.tables import first_table, how_many, told
from keytellers.texts import show_book, show_placing, show_road, show_words

NO = "no"


def made_book(word, book, thing):
    """The book that the order with this word makes of a book."""
    if word == "with":
        return with_key(book, thing)
    if word == "without":
        return without_key(book, thing)
    return part(book, thing)


def show_answer(book):
    return show_book(book)


def free_answer(book):
    return "yes" if is_free(book) else NO


def closed_answer(book):
    return lot_answer(least_closed(book))


def table_answer(book, values):
    try:
        return show_words(first_table(book, values))
    except NoTable:
        return NO


def tables_answer(book, w, values):
    return str(how_many(book, w, values))


def told_answer(book, key, table):
    return str(told(book, table, key))


def core_answer(book):
    return show_words(core(book))


def road_answer(book):
    return show_road(road(book))


def seats_answer(book):
    try:
        return show_words(first_seats(book))
    except NoSeats:
        return NO


def short_answer(book):
    return lot_answer(least_short(book))


def placed_answer(book):
    return show_placing(all_in(book))


def lot_answer(lot):
    return NO if lot is None else show_words(lot)


# The answer of each order that asks something of one book.
ANSWERS = {
    "show": show_answer,
    "free": free_answer,
    "closed": closed_answer,
    "table": table_answer,
    "tables": tables_answer,
    "told": told_answer,
    "core": core_answer,
    "road": road_answer,
    "seats": seats_answer,
    "short": short_answer,
    "placed": placed_answer,
}


def answer_of(word, book, things):
    """What the order with this word answers of a book."""
    answer = ANSWERS[word]
    return answer(book, *things)
