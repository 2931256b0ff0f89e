"""What the tests share: texts built from plain values, and the document's rules written a second time.

The second writing goes by regular expressions and by trying every hoist, so that it has little in common
with the way the package goes.
"""

import re

MOST_BYTES = 65536


def text(words):
    """A text's bytes as the calls take them."""
    return list(words.encode("latin-1"))


def look(number):
    """A written look, another for each number below 16^16."""
    return f"{number:016x}"


def locker_words(signs, sames=(), answer=0, name="L"):
    """A locker's text: signs as (name, copies), sames as (K, copies), the answer's copies, each with its own look."""
    lines = [f"locker {name}"]
    for sign, copies in signs:
        lines.append(f"sign {sign} {copies} square {look(len(lines))}")
    for k, copies in sames:
        lines.append(f"same {k} {copies} tails {look(len(lines))}")
    if answer:
        lines.append(f"answer {answer} long {look(len(lines))}")
    return "".join(line + "\n" for line in lines)


def book_words(lines, name="X", locker="L"):
    """A book's text with these lines as its entries'."""
    return "".join(line + "\n" for line in [f"book {name}", f"for {locker}"] + list(lines))


def amend_words(lines, name="X"):
    """An amendment's text with these lines behind line 0."""
    return "".join(line + "\n" for line in [f"amend {name}"] + list(lines))


def many_signs(count, copies):
    """So many signs, S00 and on, of so many copies each."""
    return [(f"S{number:02}", copies) for number in range(count)]


def many_rows(count):
    """The first so many rows of the signs S00 to S47, as written, in the order of rows (at most 48 + 48 * 48)."""
    names = [f"S{number:02}" for number in range(48)]
    return (names + [f"{first}.{second}" for first in names for second in names])[:count]


def book_of_size(size):
    """A book of 1,000 entries whose text has just so many bytes (about 65,000)."""
    return book_words(lines_of_size(many_rows(1000), size - len(book_words([]))))


def lines_of_size(starts, size):
    """Lines that begin so, each with a blank and a meaning behind, that have with their ends just so many bytes."""
    each, more = divmod(size - sum(len(start) + 2 for start in starts), len(starts))
    return [start + " " + "m" * (each + (place < more)) for place, start in enumerate(starts)]


class Untouched(list):
    """A list that fails at once when it's changed."""

    def refuse(self, *values, **named):
        raise AssertionError("a list that was handed in is changed")

    append = clear = extend = insert = pop = remove = reverse = sort = refuse
    __setitem__ = __delitem__ = __iadd__ = __imul__ = refuse


def differ_at(first, second):
    """The first place where two long lists differ, None if they don't: unittest takes very long to tell how they do."""
    if first == second:
        return None
    return next((place for place, pair in enumerate(zip(first, second)) if pair[0] != pair[1]),
                min(len(first), len(second)))


def hoist_meaning(hoist, signs, sames):
    """The row that a hoist means, None if not all of its flags mean something; sames: K by the kind's number."""
    row = []
    for kind in hoist:
        if kind < signs:
            row.append(kind)
        elif kind in sames and sames[kind] <= len(row):
            row.append(row[sames[kind] - 1])
        else:
            return None
    return row


def can_be_shown(row, copies, signs, sames):
    """Whether some hoist shows the row: every hoist is tried, flag by flag, as far as it means the row."""
    hoists = [[]]
    for place in range(len(row)):
        longer = [hoist + [kind] for hoist in hoists for kind in range(len(copies))]
        longer = [hoist for hoist in longer if hoist_meaning(hoist, signs, sames) == row[:place + 1]]
        # Hoists that differ only in the order of their flags go on alike, so one of them is enough.
        alike = {tuple(sorted(hoist)): hoist for hoist in longer}
        hoists = [hoist for hoist in alike.values() if all(hoist.count(k) <= copies[k] for k in set(hoist))]
    return hoists != []


KIND_LINE = re.compile(rb"(?:sign ([A-Z0-9]{1,8})|same ([1-4])|answer) ([1-8]) (square|tails|long) ([0-9a-f]{16})")
MEANING = re.compile(rb"(?=.{1,64}\Z)[!-~]+(?: [!-~]+)*")
ENTRY_LINE = re.compile(rb"((?:[A-Z0-9]{1,8}\.){0,7}[A-Z0-9]{1,8}) (.*)", re.DOTALL)


def line_ends(words):
    """Each line of a text without its byte 10, and whether it has one."""
    return [(line.rstrip(b"\n"), line.endswith(b"\n")) for line in re.findall(rb"[^\n]*\n|[^\n]+", words)]


class Judged:
    """A locker as the second writing tells it, or the kind and line of its text's fault."""

    def __init__(self, words):
        self.name = None
        self.names = []
        self.sames = {}
        self.copies = []
        self.looks = []
        self.ended = False
        self.fault = None
        lines = line_ends(words)
        for number, (line, ended) in enumerate(lines):
            kind = self.line_kind(number, line) if ended else 1
            if kind:
                self.fault = [kind, number]
                return
        if not self.names:
            self.fault = [1, len(lines)]

    def line_kind(self, number, line):
        if number == 0:
            found = re.fullmatch(rb"locker ([A-Z0-9]{1,8})", line)
            self.name = found and found[1]
            return 0 if found else 1
        found = KIND_LINE.fullmatch(line)
        if not found or self.ended or (found[1] and self.sames):
            return 1
        if found[1] in self.names or (found[2] and self.sames and int(found[2]) <= max(self.sames.values())):
            return 2
        if found[1] and len(self.names) == 48:
            return 3
        if (found[4], found[5]) in self.looks:
            return 4
        if found[1]:
            self.names.append(found[1])
        elif found[2]:
            self.sames[len(self.copies)] = int(found[2])
        else:
            self.ended = True
        self.copies.append(int(found[3]))
        self.looks.append((found[4], found[5]))
        return 0


def entry_kind(locker, line, entries):
    """The kind of an entry's line's fault, 0 if it has none: then its row and meaning are put behind the entries."""
    found = ENTRY_LINE.fullmatch(line)
    if not found or not MEANING.fullmatch(found[2]):
        return 1
    names = found[1].split(b".")
    if set(names) - set(locker.names):
        return 3
    row = [locker.names.index(name) for name in names]
    if not can_be_shown(row, locker.copies, len(locker.names), locker.sames):
        return 4
    if entries and (len(row), row) <= (len(entries[-1][0]), entries[-1][0]):
        return 5
    if len(entries) == 2048:
        return 6
    entries.append((row, list(found[2])))
    return 0


def head_kind(locker, number, line):
    """The kind of the fault of a book's line 0 or 1, 0 if it has none."""
    found = re.fullmatch(rb"for ([A-Z0-9]{1,8})" if number else rb"book ([A-Z0-9]{1,8})", line)
    if not found:
        return 1
    return 2 if number and found[1] != locker.name else 0


def second_judge(t, b):
    """What judge must answer, and the entries, each its row and its meaning's bytes, if it's no refusal."""
    if len(t) > MOST_BYTES or len(b) > MOST_BYTES:
        return [-2], []
    locker = Judged(bytes(t))
    if locker.fault:
        return [-6], []
    entries = []
    lines = line_ends(bytes(b))
    for number, (line, ended) in enumerate(lines):
        kind = 1
        if ended:
            kind = entry_kind(locker, line, entries) if number > 1 else head_kind(locker, number, line)
        if kind:
            return [-9, kind, number], []
    if len(lines) < 2:
        return [-9, 1, len(lines)], []
    return [len(entries)], entries


def second_find(t, b, signs):
    """What find must answer."""
    answer, entries = second_judge(t, b)
    if answer[0] < 0:
        return answer[:1]
    if not signs or len(signs) > 8:
        return [-1]
    if max(signs) >= len(Judged(bytes(t)).names):
        return [-4]
    return [number for number, (row, meaning) in enumerate(entries) if row == list(signs)] or [-5]


def second_means(t, b, m):
    """What means must answer."""
    answer, entries = second_judge(t, b)
    if answer[0] < 0:
        return answer[:1]
    if not MEANING.fullmatch(bytes(m)):
        return [-1]
    return [number for number, (row, meaning) in enumerate(entries) if meaning == list(m)][:1] or [-5]


CHANGE_LINE = re.compile(rb"([-+=]) ((?:[A-Z0-9]{1,8}\.){0,7}[A-Z0-9]{1,8})(?: (.*))?", re.DOTALL)


def change_kind(locker, line, book, rows, made):
    """The kind of a change's line's fault, 0 if it has none: then it's done on the book made, its row put to rows."""
    found = CHANGE_LINE.fullmatch(line)
    if not found or (found[3] is None) != (found[1] == b"-"):
        return 1
    if found[1] != b"-" and not MEANING.fullmatch(found[3]):
        return 1
    names = found[2].split(b".")
    if set(names) - set(locker.names):
        return 3
    row = tuple(locker.names.index(name) for name in names)
    if found[1] == b"+" and not can_be_shown(list(row), locker.copies, len(locker.names), locker.sames):
        return 4
    if rows and (len(row), row) <= (len(rows[-1]), rows[-1]):
        return 5
    if (row in book) == (found[1] == b"+") or (found[1] == b"=" and book[row] == found[3]):
        return 6
    rows.append(row)
    made[row] = found[3]
    return 0


def second_amend(t, b, c):
    """What amend must answer."""
    answer, entries = second_judge(t, b)
    if len(c) > MOST_BYTES or answer[0] in (-2, -6):
        return [-2] if len(c) > MOST_BYTES else answer
    if answer[0] == -9:
        return [-9, 0, 0]
    locker = Judged(bytes(t))
    name = bytes(b).split()[1]
    book = {tuple(row): bytes(meaning) for row, meaning in entries}
    made, rows = dict(book), []
    lines = line_ends(bytes(c)) or [(b"", False)]
    for number, (line, ended) in enumerate(lines):
        kind = 0 if ended else 1
        if ended and number == 0 and line != b"amend " + name:
            kind = 2 if re.fullmatch(rb"amend [A-Z0-9]{1,8}", line) else 1
        if ended and number > 0:
            kind = change_kind(locker, line, book, rows, made)
        if kind:
            return [-9, kind, number]
    left = sorted((len(row), row) for row in made if made[row] is not None)
    if len(left) > 2048:
        return [-9, 7, len(lines)]
    told = b"book %s\nfor %s\n" % (name, locker.name)
    for length, row in left:
        told += b".".join(locker.names[sign] for sign in row) + b" " + made[row] + b"\n"
    return [len(told)] + list(told)
