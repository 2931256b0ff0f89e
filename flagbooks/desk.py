"""The calls: each takes whole texts and answers one list of numbers, a refusal's below 0 first."""

from flagbooks.amendments import amended, text_between
from flagbooks.books import is_meaning, is_row_length, number_of_first, read_book, text_of_book
from flagbooks.lockers import is_sign, read_locker
from flagbooks.views import is_side, pairs_alike

LONGEST_TEXT = 65536

OUT_OF_FORM = -1
TOO_LONG = -2
OTHER_NAMES = -3
# Told of an entry's number and of a sign's.
NO_SUCH_NUMBER = -4
NONE_FOUND = -5
NO_LOCKER = -6
NO_BOOK = -9


class Reading:
    """What a locker's and a book's text tell: both, or the refusal ([] if there's none) as judge answers it."""

    def __init__(self, refusal, locker, book):
        self.refusal = refusal
        self.locker = locker
        self.book = book


def read_texts(t, b):
    """The locker t and the book b for it, or why the texts are refused."""
    if len(t) > LONGEST_TEXT or len(b) > LONGEST_TEXT:
        return Reading([TOO_LONG], None, None)
    locker = read_locker(t)
    if locker.fault != []:
        return Reading([NO_LOCKER], None, None)
    book = read_book(locker, b)
    if book.fault != []:
        return Reading([NO_BOOK] + book.fault, None, None)
    return Reading([], locker, book)


def told_with_count(told):
    """How many numbers are told, then they."""
    return [len(told)] + told


def number_or_refusal(found):
    """The number of the entry that's found, or the refusal if None is."""
    return [NONE_FOUND] if found is None else [found]


def told_of_entry(i, t, b, tell):
    """How many numbers tell gives for the book's entry i, then they."""
    reading = read_texts(t, b)
    if reading.refusal != []:
        return reading.refusal[:1]
    if i >= len(reading.book.entries):
        return [NO_SUCH_NUMBER]
    return told_with_count(tell(reading.book.entries[i]))


def judge(t, b):
    """How many entries the book b for the locker t has; -9 with the kind and the line of its fault."""
    reading = read_texts(t, b)
    if reading.refusal != []:
        return reading.refusal
    return [len(reading.book.entries)]


def row(i, t, b):
    """How many signs the row of the book's entry i has, then their numbers."""
    return told_of_entry(i, t, b, lambda entry: entry.row)


def says(i, t, b):
    """How many bytes the meaning of the book's entry i has, then they."""
    return told_of_entry(i, t, b, lambda entry: entry.meaning)


def find(t, b, signs):
    """The number of the book's entry with the row of these signs."""
    reading = read_texts(t, b)
    if reading.refusal != []:
        return reading.refusal[:1]
    if not is_row_length(len(signs)):
        return [OUT_OF_FORM]
    if not all([is_sign(reading.locker, number) for number in signs]):
        return [NO_SUCH_NUMBER]
    return number_or_refusal(number_of_first(reading.book, lambda entry: entry.row == signs))


def means(t, b, m):
    """The number of the book's first entry with the meaning m."""
    reading = read_texts(t, b)
    if reading.refusal != []:
        return reading.refusal[:1]
    if not is_meaning(m):
        return [OUT_OF_FORM]
    return number_or_refusal(number_of_first(reading.book, lambda entry: entry.meaning == m))


def amend(t, b, c):
    """How many bytes the text of the book b amended by c has, then they; -9 with the amendment's fault or 0 0."""
    if len(c) > LONGEST_TEXT:
        return [TOO_LONG]
    reading = read_texts(t, b)
    if reading.refusal[:1] == [NO_BOOK]:
        return [NO_BOOK, 0, 0]
    if reading.refusal != []:
        return reading.refusal
    made = amended(reading.locker, reading.book, c)
    if made.fault != []:
        return [NO_BOOK] + made.fault
    return told_with_count(text_of_book(reading.locker, made))


def between(t, b, c):
    """How many bytes the text of the amendment has that makes the book c of the book b, then they."""
    if len(c) > LONGEST_TEXT:
        return [TOO_LONG]
    reading = read_texts(t, b)
    if reading.refusal != []:
        return reading.refusal[:1]
    later = read_book(reading.locker, c)
    if later.fault != []:
        return [NO_BOOK]
    if later.name != reading.book.name:
        return [OTHER_NAMES]
    return told_with_count(text_between(reading.locker, reading.book, later))


def doubts(light, side, t, b):
    """How many pairs of the book's entries can be taken for one another in this light from this side, then they."""
    reading = read_texts(t, b)
    if reading.refusal != []:
        return reading.refusal[:1]
    if not is_side(side):
        return [OUT_OF_FORM]
    pairs = pairs_alike(reading.locker, reading.book, light, side)
    return [len(pairs) // 2] + pairs
