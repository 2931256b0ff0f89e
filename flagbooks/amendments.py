"""Amendments: what makes one edition of a book out of another, read from an amendment's text and written as one."""

from flagbooks.books import MOST_ENTRIES, NO_SIGN, NOT_BEHIND, NOT_SHOWN
from flagbooks.books import Book, Entry
from flagbooks.books import is_entry_line, is_row_behind, is_row_word, place_in_order
from flagbooks.books import meaning_told, row_word, signs_told, word_of_row
from flagbooks.hoists import can_show
from flagbooks.lines import BLANK, LINE_END, NO_SUCH_LINE
from flagbooks.lines import count_lines, first_fault, is_naming_line, named, naming_line

# The bytes + - = that a change's line begins with.
NEW = 43
DROPPED = 45
SAYS_ELSE = 61

OTHER_BOOK = 2
NOT_TO_BE_DONE = 6
TOO_MANY_LEFT = 7


class Change:
    """What one line of an amendment does: its mark, the row, and the meaning it has then, [] if it's dropped."""

    def __init__(self, mark, row, meaning):
        self.mark = mark
        self.row = row
        self.meaning = meaning


class Amendment:
    """An amendment on a book: that book's name, its meanings by their rows (as tuples), and the changes in order.

    fault is [] or, if the text is no amendment's on the book, the kind and the line of what's wrong with it.
    """

    def __init__(self, name, meanings):
        self.name = name
        self.meanings = meanings
        self.changes = []
        self.fault = []


def meanings_by_row(book):
    """The book's meanings by their rows, these as tuples."""
    meanings = {}
    for entry in book.entries:
        meanings[tuple(entry.row)] = entry.meaning
    return meanings


def is_change_line(line):
    """Whether the line is + or = with a row and a meaning, or - with a row alone."""
    if line[1:2] != [BLANK]:
        return False
    if line[0] == DROPPED:
        return is_row_word(line[2:])
    return line[0] in (NEW, SAYS_ELSE) and is_entry_line(line[2:])


def change_told(locker, line):
    """The change that a change's line tells, with None in its row for each name that's no sign's."""
    told = line[2:]
    return Change(line[0], signs_told(locker, row_word(told)), meaning_told(told))


def can_be_done(meanings, change):
    """Whether a book with these meanings by their rows can be changed so."""
    row = tuple(change.row)
    if change.mark == NEW:
        return row not in meanings
    # No entry has the meaning [], so that dropping one is always a change.
    return row in meanings and meanings[row] != change.meaning


def change_fault(locker, amendment, change):
    """The kind of fault of a line that tells this change behind those before, 0 if it has none."""
    if None in change.row:
        return NO_SIGN
    if change.mark == NEW and not can_show(locker, change.row):
        return NOT_SHOWN
    if len(amendment.changes) > 0 and not is_row_behind(change.row, amendment.changes[-1].row):
        return NOT_BEHIND
    return 0 if can_be_done(amendment.meanings, change) else NOT_TO_BE_DONE


def name_fault(amendment, line):
    """The kind of fault of an amendment's line 0, 0 if it has none."""
    if not is_naming_line(line, "amend"):
        return NO_SUCH_LINE
    return 0 if named(line) == amendment.name else OTHER_BOOK


def take_line(locker, amendment, number, line):
    """Add to the amendment what its next line tells; answers the kind of the line's fault, 0 if it has none."""
    if number == 0:
        return name_fault(amendment, line)
    if not is_change_line(line):
        return NO_SUCH_LINE
    change = change_told(locker, line)
    fault = change_fault(locker, amendment, change)
    if fault == 0:
        amendment.changes.append(change)
    return fault


def read_amendment(locker, book, text):
    """The amendment on this book that a text tells, with the fault of its lines if it has one."""
    amendment = Amendment(book.name, meanings_by_row(book))
    amendment.fault = first_fault(text, lambda number, line: take_line(locker, amendment, number, line))
    if text == []:
        amendment.fault = [NO_SUCH_LINE, 0]
    return amendment


def changed(book, changes):
    """The book with all these changes done, however many entries it has then."""
    meanings = meanings_by_row(book)
    for change in changes:
        meanings[tuple(change.row)] = change.meaning
    made = Book()
    made.name = book.name
    rows = [row for row in sorted(meanings, key=place_in_order) if meanings[row] != []]
    made.entries = [Entry(list(row), meanings[row]) for row in rows]
    return made


def amended(locker, book, text):
    """The book amended by what a text tells, with the text's fault if it's no amendment's on the book."""
    amendment = read_amendment(locker, book, text)
    made = changed(book, amendment.changes)
    made.fault = amendment.fault
    if made.fault == [] and len(made.entries) > MOST_ENTRIES:
        made.fault = [TOO_MANY_LEFT, count_lines(text)]
    return made


def mark_between(was, now):
    """The mark of the change of a row that means one thing and then another, [] where it isn't in the book."""
    if was == []:
        return NEW
    return DROPPED if now == [] else SAYS_ELSE


def changes_between(book, later):
    """The changes, in order, that make the later book of the book."""
    before = meanings_by_row(book)
    after = meanings_by_row(later)
    rows = dict(before)
    rows.update(after)
    changes = []
    for row in sorted(rows, key=place_in_order):
        was = before.get(row, [])
        now = after.get(row, [])
        if was != now:
            changes.append(Change(mark_between(was, now), list(row), now))
    return changes


def change_line(locker, change):
    """The line that tells a change, with its end."""
    line = [change.mark, BLANK] + word_of_row(locker, change.row)
    if change.mark != DROPPED:
        line.append(BLANK)
    return line + change.meaning + [LINE_END]


def text_between(locker, book, later):
    """The text of the amendment that makes the later book, of the same name, of the book."""
    text = naming_line("amend", book.name)
    for change in changes_between(book, later):
        text.extend(change_line(locker, change))
    return text
