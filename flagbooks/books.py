"""Books: what rows of signs say, read from a book's text and written as one."""

from flagbooks.hoists import can_show
from flagbooks.lines import BLANK, LINE_END, NO_SUCH_LINE
from flagbooks.lines import count_lines, first_fault, is_name, is_naming_line, named, naming_line, split_at

FULL_STOP = 46
LAST_PRINTED = 126
LONGEST_ROW = 8
LONGEST_MEANING = 64
MOST_ENTRIES = 2048
# The lines ahead of the entries.
HEAD_LINES = 2

OTHER_LOCKER = 2
NO_SIGN = 3
NOT_SHOWN = 4
NOT_BEHIND = 5
TOO_MANY_ENTRIES = 6


class Entry:
    """A row, as the numbers of its signs, and its meaning's bytes."""

    def __init__(self, row, meaning):
        self.row = row
        self.meaning = meaning


class Book:
    """A book. fault is [] or, if the text is no book's, the kind and the line of what's wrong with it."""

    def __init__(self):
        self.name = []
        self.entries = []
        self.fault = []


def is_meaning(told):
    """Whether the bytes are a meaning."""
    if len(told) > LONGEST_MEANING or not all([BLANK <= byte <= LAST_PRINTED for byte in told]):
        return False
    # No bytes at all, a blank at an end and one beside another each leave an empty word.
    return [] not in split_at(BLANK, told)


def row_word(line):
    """What stands ahead of the line's first blank: the word of the row in an entry's line."""
    return split_at(BLANK, line)[0]


def meaning_told(line):
    """What stands behind the line's first blank."""
    return line[len(row_word(line)) + 1:]


def is_row_length(length):
    """Whether a row can have so many signs."""
    return 1 <= length <= LONGEST_ROW


def is_row_word(word):
    """Whether the word is 1 to 8 names with a full stop between two."""
    names = split_at(FULL_STOP, word)
    return is_row_length(len(names)) and all([is_name(name) for name in names])


def is_entry_line(line):
    """Whether the line is 1 to 8 names, a blank and a meaning."""
    return is_row_word(row_word(line)) and is_meaning(meaning_told(line))


def signs_told(locker, word):
    """The numbers of the signs that a row's word names, None in the place of a name that's no sign's."""
    return [locker.signs.get(tuple(name)) for name in split_at(FULL_STOP, word)]


def place_in_order(row):
    """What is compared of rows in the order of rows."""
    return (len(row), row)


def is_row_behind(row, before):
    """Whether the row comes behind the one before, in the order of rows."""
    return place_in_order(row) > place_in_order(before)


def row_fault(locker, book, row):
    """The kind of fault of a line whose names are signs, those of this row; 0 if it has none."""
    if not can_show(locker, row):
        return NOT_SHOWN
    if len(book.entries) > 0 and not is_row_behind(row, book.entries[-1].row):
        return NOT_BEHIND
    if len(book.entries) == MOST_ENTRIES:
        return TOO_MANY_ENTRIES
    return 0


def take_entry(locker, book, line):
    """Add the entry of a line to the book; answers the kind of the line's fault, 0 if it has none."""
    if not is_entry_line(line):
        return NO_SUCH_LINE
    row = signs_told(locker, row_word(line))
    if None in row:
        return NO_SIGN
    fault = row_fault(locker, book, row)
    if fault == 0:
        book.entries.append(Entry(row, meaning_told(line)))
    return fault


def take_line(locker, book, number, line):
    """Add to the book what its next line tells; answers the kind of the line's fault, 0 if it has none."""
    if number >= HEAD_LINES:
        return take_entry(locker, book, line)
    if not is_naming_line(line, "book" if number == 0 else "for"):
        return NO_SUCH_LINE
    if number == 0:
        book.name = named(line)
    elif named(line) != locker.name:
        return OTHER_LOCKER
    return 0


def read_book(locker, text):
    """The book for this locker that a text tells, with its fault if it's no book's text."""
    book = Book()
    book.fault = first_fault(text, lambda number, line: take_line(locker, book, number, line))
    if book.fault == [] and count_lines(text) < HEAD_LINES:
        book.fault = [NO_SUCH_LINE, count_lines(text)]
    return book


def number_of_first(book, is_wanted):
    """The number of the book's first entry that is_wanted holds of, None if there's none."""
    for number, entry in enumerate(book.entries):
        if is_wanted(entry):
            return number
    return None


def word_of_row(locker, row):
    """The word that tells a row."""
    word = []
    for sign in row:
        if word != []:
            word.append(FULL_STOP)
        word.extend(locker.kinds[sign].label)
    return word


def entry_line(locker, entry):
    """The line that tells an entry, with its end."""
    return word_of_row(locker, entry.row) + [BLANK] + entry.meaning + [LINE_END]


def text_of_book(locker, book):
    """The text that tells a book for this locker."""
    text = naming_line("book", book.name) + naming_line("for", locker.name)
    for entry in book.entries:
        text.extend(entry_line(locker, entry))
    return text
