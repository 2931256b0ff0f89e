"""The calls: each takes whole texts and answers one list of numbers, a refusal's below 0 first."""

from flagbooks.books import read_book
from flagbooks.lockers import read_locker

LONGEST_TEXT = 65536

TOO_LONG = -2
NO_ENTRY = -4
NO_LOCKER = -6
NO_BOOK = -9


class Reading:
    """What a locker's and a book's text tell: the book, or the refusal ([] if there's none) as judge answers it."""

    def __init__(self, refusal, book):
        self.refusal = refusal
        self.book = book


def read_texts(t, b):
    """The book b for the locker t, or why the texts are refused."""
    if len(t) > LONGEST_TEXT or len(b) > LONGEST_TEXT:
        return Reading([TOO_LONG], None)
    locker = read_locker(t)
    if locker.fault != []:
        return Reading([NO_LOCKER], None)
    book = read_book(locker, b)
    if book.fault != []:
        return Reading([NO_BOOK] + book.fault, None)
    return Reading([], book)


def judge(t, b):
    """How many entries the book b for the locker t has; -9 with the kind and the line of its fault."""
    reading = read_texts(t, b)
    if reading.refusal != []:
        return reading.refusal
    return [len(reading.book.entries)]


def row(i, t, b):
    """How many signs the row of the book's entry i has, then their numbers."""
    reading = read_texts(t, b)
    if reading.refusal != []:
        return reading.refusal[:1]
    if i >= len(reading.book.entries):
        return [NO_ENTRY]
    signs = reading.book.entries[i].row
    return [len(signs)] + signs
