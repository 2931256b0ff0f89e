"""What the tests share: texts built from plain values or by chance, and the document's rules written a second time.

The second writing goes by regular expressions and by trying every hoist, so that it has little in common
with the way the package goes.
"""

import functools
import itertools
import re

MOST_BYTES = 65536


def text(words):
    """A text's bytes as the calls take them."""
    return list(words.encode("latin-1"))


def look(number):
    """A written look, another for each number below 16^16."""
    return f"{number:016x}"


def locker_words(signs, sames=(), answer=0, name="L"):
    """A locker's text: signs as (name, copies), sames as (K, copies), the answer's copies, each with its own look."""
    lines = [f"locker {name}"]
    for sign, copies in signs:
        lines.append(f"sign {sign} {copies} square {look(len(lines))}")
    for k, copies in sames:
        lines.append(f"same {k} {copies} tails {look(len(lines))}")
    if answer:
        lines.append(f"answer {answer} long {look(len(lines))}")
    return "".join(line + "\n" for line in lines)


def book_words(lines, name="X", locker="L"):
    """A book's text with these lines as its entries'."""
    return "".join(line + "\n" for line in [f"book {name}", f"for {locker}"] + list(lines))


def amend_words(lines, name="X"):
    """An amendment's text with these lines behind line 0."""
    return "".join(line + "\n" for line in [f"amend {name}"] + list(lines))


def many_signs(count, copies):
    """So many signs, S00 and on, of so many copies each."""
    return [(f"S{number:02}", copies) for number in range(count)]


def many_rows(count):
    """The first so many rows of the signs S00 to S47, as written, in the order of rows (at most 48 + 48 * 48)."""
    names = [f"S{number:02}" for number in range(48)]
    return (names + [f"{first}.{second}" for first in names for second in names])[:count]


def book_of_size(size):
    """A book of 1,000 entries whose text has just so many bytes (about 65,000)."""
    return book_words(lines_of_size(many_rows(1000), size - len(book_words([]))))


def lines_of_size(starts, size):
    """Lines that begin so, each with a blank and a meaning behind, that have with their ends just so many bytes."""
    each, more = divmod(size - sum(len(start) + 2 for start in starts), len(starts))
    return [start + " " + "m" * (each + (place < more)) for place, start in enumerate(starts)]


class Untouched(list):
    """A list that fails at once when it's changed."""

    def refuse(self, *values, **named):
        raise AssertionError("a list that was handed in is changed")

    append = clear = extend = insert = pop = remove = reverse = sort = refuse
    __setitem__ = __delitem__ = __iadd__ = __imul__ = refuse


def differ_at(first, second):
    """The first place where two long lists differ, None if they don't: unittest takes very long to tell how they do."""
    if first == second:
        return None
    return next((place for place, pair in enumerate(zip(first, second)) if pair[0] != pair[1]),
                min(len(first), len(second)))


def hoist_meaning(hoist, signs, sames):
    """The row that a hoist means, None if not all of its flags mean something; sames: K by the kind's number."""
    row = []
    for kind in hoist:
        if kind < signs:
            row.append(kind)
        elif kind in sames and sames[kind] <= len(row):
            row.append(row[sames[kind] - 1])
        else:
            return None
    return row


def can_be_shown(row, copies, signs, sames):
    """Whether some hoist shows the row: every hoist is tried, flag by flag, as far as it means the row."""
    hoists = [[]]
    for place in range(len(row)):
        longer = [hoist + [kind] for hoist in hoists for kind in range(len(copies))]
        longer = [hoist for hoist in longer if hoist_meaning(hoist, signs, sames) == row[:place + 1]]
        # Hoists that differ only in the order of their flags go on alike, so one of them is enough.
        alike = {tuple(sorted(hoist)): hoist for hoist in longer}
        hoists = [hoist for hoist in alike.values() if all(hoist.count(k) <= copies[k] for k in set(hoist))]
    return hoists != []


KIND_LINE = re.compile(rb"(?:sign ([A-Z0-9]{1,8})|same ([1-4])|answer) ([1-8]) (square|tails|long) ([0-9a-f]{16})")
MEANING = re.compile(rb"(?=.{1,64}\Z)[!-~]+(?: [!-~]+)*")
ENTRY_LINE = re.compile(rb"((?:[A-Z0-9]{1,8}\.){0,7}[A-Z0-9]{1,8}) (.*)", re.DOTALL)


def line_ends(words):
    """Each line of a text without its byte 10, and whether it has one."""
    return [(line.rstrip(b"\n"), line.endswith(b"\n")) for line in re.findall(rb"[^\n]*\n|[^\n]+", words)]


class Judged:
    """A locker as the second writing tells it, or the kind and line of its text's fault."""

    def __init__(self, words):
        self.name = None
        self.names = []
        self.sames = {}
        self.copies = []
        self.looks = []
        self.ended = False
        self.fault = None
        lines = line_ends(words)
        for number, (line, ended) in enumerate(lines):
            kind = self.line_kind(number, line) if ended else 1
            if kind:
                self.fault = [kind, number]
                return
        if not self.names:
            self.fault = [1, len(lines)]

    def line_kind(self, number, line):
        if number == 0:
            found = re.fullmatch(rb"locker ([A-Z0-9]{1,8})", line)
            self.name = found and found[1]
            return 0 if found else 1
        found = KIND_LINE.fullmatch(line)
        if not found or self.ended or (found[1] and self.sames):
            return 1
        if found[1] in self.names or (found[2] and self.sames and int(found[2]) <= max(self.sames.values())):
            return 2
        if found[1] and len(self.names) == 48:
            return 3
        if (found[4], found[5]) in self.looks:
            return 4
        if found[1]:
            self.names.append(found[1])
        elif found[2]:
            self.sames[len(self.copies)] = int(found[2])
        else:
            self.ended = True
        self.copies.append(int(found[3]))
        self.looks.append((found[4], found[5]))
        return 0


def entry_kind(locker, line, entries):
    """The kind of an entry's line's fault, 0 if it has none: then its row and meaning are put behind the entries."""
    found = ENTRY_LINE.fullmatch(line)
    if not found or not MEANING.fullmatch(found[2]):
        return 1
    names = found[1].split(b".")
    if set(names) - set(locker.names):
        return 3
    row = [locker.names.index(name) for name in names]
    if not can_be_shown(row, locker.copies, len(locker.names), locker.sames):
        return 4
    if entries and (len(row), row) <= (len(entries[-1][0]), entries[-1][0]):
        return 5
    if len(entries) == 2048:
        return 6
    entries.append((row, list(found[2])))
    return 0


def head_kind(locker, number, line):
    """The kind of the fault of a book's line 0 or 1, 0 if it has none."""
    found = re.fullmatch(rb"for ([A-Z0-9]{1,8})" if number else rb"book ([A-Z0-9]{1,8})", line)
    if not found:
        return 1
    return 2 if number and found[1] != locker.name else 0


def second_judge(t, b):
    """What judge must answer, and the entries, each its row and its meaning's bytes, if it's no refusal."""
    if len(t) > MOST_BYTES or len(b) > MOST_BYTES:
        return [-2], []
    locker = Judged(bytes(t))
    if locker.fault:
        return [-6], []
    entries = []
    lines = line_ends(bytes(b))
    for number, (line, ended) in enumerate(lines):
        kind = 1
        if ended:
            kind = entry_kind(locker, line, entries) if number > 1 else head_kind(locker, number, line)
        if kind:
            return [-9, kind, number], []
    if len(lines) < 2:
        return [-9, 1, len(lines)], []
    return [len(entries)], entries


def second_find(t, b, signs):
    """What find must answer."""
    answer, entries = second_judge(t, b)
    if answer[0] < 0:
        return answer[:1]
    if not signs or len(signs) > 8:
        return [-1]
    if max(signs) >= len(Judged(bytes(t)).names):
        return [-4]
    return [number for number, (row, meaning) in enumerate(entries) if row == list(signs)] or [-5]


def second_means(t, b, m):
    """What means must answer."""
    answer, entries = second_judge(t, b)
    if answer[0] < 0:
        return answer[:1]
    if not MEANING.fullmatch(bytes(m)):
        return [-1]
    return [number for number, (row, meaning) in enumerate(entries) if meaning == list(m)][:1] or [-5]


CHANGE_LINE = re.compile(rb"([-+=]) ((?:[A-Z0-9]{1,8}\.){0,7}[A-Z0-9]{1,8})(?: (.*))?", re.DOTALL)


def change_kind(locker, line, book, rows, made):
    """The kind of a change's line's fault, 0 if it has none: then it's done on the book made, its row put to rows."""
    found = CHANGE_LINE.fullmatch(line)
    if not found or (found[3] is None) != (found[1] == b"-"):
        return 1
    if found[1] != b"-" and not MEANING.fullmatch(found[3]):
        return 1
    names = found[2].split(b".")
    if set(names) - set(locker.names):
        return 3
    row = tuple(locker.names.index(name) for name in names)
    if found[1] == b"+" and not can_be_shown(list(row), locker.copies, len(locker.names), locker.sames):
        return 4
    if rows and (len(row), row) <= (len(rows[-1]), rows[-1]):
        return 5
    if (row in book) == (found[1] == b"+") or (found[1] == b"=" and book[row] == found[3]):
        return 6
    rows.append(row)
    made[row] = found[3]
    return 0


def second_amend(t, b, c):
    """What amend must answer."""
    answer, entries = second_judge(t, b)
    if len(c) > MOST_BYTES or answer[0] in (-2, -6):
        return [-2] if len(c) > MOST_BYTES else answer
    if answer[0] == -9:
        return [-9, 0, 0]
    locker = Judged(bytes(t))
    name = bytes(b).split()[1]
    book = {tuple(row): bytes(meaning) for row, meaning in entries}
    made, rows = dict(book), []
    lines = line_ends(bytes(c)) or [(b"", False)]
    for number, (line, ended) in enumerate(lines):
        kind = 0 if ended else 1
        if ended and number == 0 and line != b"amend " + name:
            kind = 2 if re.fullmatch(rb"amend [A-Z0-9]{1,8}", line) else 1
        if ended and number > 0:
            kind = change_kind(locker, line, book, rows, made)
        if kind:
            return [-9, kind, number]
    left = sorted((len(row), row) for row in made if made[row] is not None)
    if len(left) > 2048:
        return [-9, 7, len(lines)]
    told = b"book %s\nfor %s\n" % (name, locker.name)
    for length, row in left:
        told += b".".join(locker.names[sign] for sign in row) + b" " + made[row] + b"\n"
    return [len(told)] + list(told)


def second_between(t, b, c):
    """What between must answer."""
    if len(c) > MOST_BYTES:
        return [-2]
    answer, entries = second_judge(t, b)
    if answer[0] < 0:
        return answer[:1]
    later_answer, later_entries = second_judge(t, c)
    if later_answer[0] < 0:
        return [-9]
    name, later_name = bytes(b).split()[1], bytes(c).split()[1]
    if name != later_name:
        return [-3]
    names = Judged(bytes(t)).names
    before = {tuple(row): bytes(meaning) for row, meaning in entries}
    after = {tuple(row): bytes(meaning) for row, meaning in later_entries}
    lines = [(row, b"-", b"") for row in set(before) - set(after)]
    lines += [(row, b"+", b" " + after[row]) for row in set(after) - set(before)]
    lines += [(row, b"=", b" " + after[row]) for row in set(after) & set(before) if after[row] != before[row]]
    told = b"amend " + name + b"\n"
    for row, mark, meaning in sorted(lines, key=lambda line: (len(line[0]), line[0])):
        told += mark + b" " + b".".join(names[sign] for sign in row) + meaning + b"\n"
    return [len(told)] + list(told)


def hoists_that_show(row, copies, signs, sames):
    """Every hoist that can show the row."""
    hoists = [[]]
    for place in range(len(row)):
        longer = [hoist + [kind] for hoist in hoists for kind in range(len(copies))]
        longer = [hoist for hoist in longer if hoist_meaning(hoist, signs, sames) == list(row[:place + 1])]
        hoists = [hoist for hoist in longer if hoist.count(hoist[-1]) <= copies[hoist[-1]]]
    return hoists


def second_hoist(row, copies, signs, sames):
    """The hoist told for a row, out of all that can show it; None if there's none."""
    hoists = hoists_that_show(row, copies, signs, sames)
    return min(hoists, key=lambda hoist: (sum(kind >= signs for kind in hoist), hoist), default=None)


def flag_seen(locker, kind, light, side):
    """The shape and the look of a flag in a light, from the front (0) or from behind (1)."""
    shape, look = locker.looks[kind]
    classes = [(light >> 4 * int(cell, 16)) & 15 for cell in look.decode()]
    if side == 1:
        classes = [classes[4 * y + 3 - x] for y in range(4) for x in range(4)]
    return shape, classes


def seen_alike(locker, light, side, first, second):
    """Whether two hoists can be taken for one another."""
    sides = (0, 1) if side == 2 else (side,)
    return len(first) == len(second) and any(
        [flag_seen(locker, kind, light, one) for kind in first]
        == [flag_seen(locker, kind, light, other) for kind in second]
        for one in sides for other in sides)


def second_doubts(light, side, t, b):
    """What doubts must answer: every two entries are held against one another."""
    answer, entries = second_judge(t, b)
    if answer[0] < 0:
        return answer[:1]
    if side > 2:
        return [-1]
    locker = Judged(bytes(t))
    hoists = [second_hoist(row, locker.copies, len(locker.names), locker.sames) for row, meaning in entries]
    pairs = [(i, j) for i in range(len(hoists)) for j in range(i + 1, len(hoists))
             if seen_alike(locker, light, side, hoists[i], hoists[j])]
    return [len(pairs)] + [number for pair in pairs for number in pair]


LOCKERS = (
    locker_words([("A", 1)]),
    locker_words([("A", 1), ("B", 2), ("C3", 1)], [(1, 1), (2, 2)], 1),
    locker_words([("B", 1), ("A", 3)], [(2, 1), (3, 1), (4, 8)]),
    locker_words([("Q", 2), ("A", 1), ("B", 1), ("C3", 1)], (), 3),
)
BOOKS = (
    book_words([]),
    book_words(["A go"]),
    book_words(["A go", "A.A stop at once"]),
    book_words(["A one", "B two", "A.B go alongside", "B.A.B 100% sure", "A.B.B.A.B.B six"]),
    book_words(["B two", "A one", "B.A x", "B.A.A.A y", "A.B.B.A.A.A.B.B eight of them"]),
    book_words(["Q q", "C3 c", "Q.Q q q", "Q.A.B.C3.Q all there is"]),
)
MEANINGS = ("go", "stop", "x", "go alongside", "one", "+ A x", "100% sure", "m" * 64)
PIECES = ("\n", " ", ".", "A", "B", "C3", "Q", "x", "1", "9", "0", "same", "sign", "A x\n", "A.B y\n", "\r", "\xff",
          "~")


def spoilt(words, chance):
    """The text with one to three small changes."""
    for change in range(chance.randint(1, 3)):
        place = chance.randint(0, len(words))
        reach = chance.choice((0, 0, 1, 1, 2, 5, 12))
        piece = chance.choice(PIECES + ("", "", words[place:place + reach] * 2))
        words = words[:place] + piece + words[place + reach:]
    return words


def lines_moved(words, chance):
    """The text with a line elsewhere, twice or gone."""
    lines = words.splitlines(keepends=True)
    line = lines[chance.randrange(len(lines))]
    if chance.random() < 0.7:
        lines.remove(line)
    if chance.random() < 0.7:
        lines.insert(chance.randint(0, len(lines)), line)
    return "".join(lines)


@functools.lru_cache(maxsize=None)
def rows_shown(t, most=4):
    """Rows of up to so many signs that a hoist alone can show out of the locker, in the order of rows."""
    locker = Judged(bytes(text(t)))
    count = len(locker.names)
    rows = [signs for length in range(1, most + 1) for signs in itertools.product(range(count), repeat=length)]
    return tuple(signs for signs in rows if can_be_shown(list(signs), locker.copies, count, locker.sames))


def written(t, signs):
    """A row's word."""
    names = [line.split()[1] for line in t.splitlines() if line.startswith("sign")]
    return ".".join(names[sign] for sign in signs)


def random_book(t, rows, chance, most=8):
    """Meanings by their rows, a few of these rows, and the text of the book that has them."""
    chosen = sorted(chance.sample(rows, chance.randint(0, min(most, len(rows)))), key=rows.index)
    meanings = {signs: chance.choice(MEANINGS) for signs in chosen}
    return meanings, book_words(f"{written(t, signs)} {meanings[signs]}" for signs in chosen)


def random_changes(t, rows, meanings, chance):
    """Lines of an amendment on a book with these meanings, and the meanings by their rows that it makes."""
    made, lines = {}, []
    for signs in rows:
        meaning = chance.choice(MEANINGS)
        word = written(t, signs)
        if signs not in meanings and chance.random() < 0.2:
            made[signs] = meaning
            lines.append(f"+ {word} {meaning}")
        elif signs in meanings and chance.random() < 0.3:
            lines.append(f"- {word}")
        elif signs in meanings and chance.random() < 0.4 and meaning != meanings[signs]:
            made[signs] = meaning
            lines.append(f"= {word} {meaning}")
        elif signs in meanings:
            made[signs] = meanings[signs]
    return lines, made


def with_a_line(t, lines, meanings, chance):
    """The lines of an amendment with another whose row and mark come by chance, mostly where its row must stand."""
    names = [line.split()[1] for line in t.splitlines() if line.startswith("sign")]
    signs = tuple(chance.randrange(len(names)) for place in range(chance.randint(1, 5)))
    if meanings and chance.random() < 0.5:
        signs = chance.choice(list(meanings))
    meaning = chance.choice((meanings.get(signs, "x"), "x"))
    mark = chance.choice("+-=")
    added = f"{mark} {written(t, signs)}" + (f" {meaning}" if mark != "-" else "")
    told = lines + [added]
    if chance.random() < 0.8:
        rows = {line: [names.index(name) for name in line.split()[1].split(".")] for line in told}
        told = sorted(told, key=lambda line: (len(rows[line]), rows[line]))
    return told


def random_look(looks, chance):
    """A look of few colours, often one of these looks from behind."""
    if looks and chance.random() < 0.4:
        look = chance.choice(looks)
        return look[3::-1] + look[4:]
    first = chance.choice(("0000", "1000", "2000", "1002", "1001", "2002", "0120", "0001"))
    return first + chance.choice(("0" * 12, "0" * 12, "0" * 12, "0" * 4 + "3003" + "0" * 4))


def random_locker(chance):
    """A locker's text with few signs, some sames and looks of which many are alike in some light."""
    labels = [f"sign {name}" for name in ("B", "A", "C3", "Q", "0")[:chance.randint(1, 5)]]
    labels += [f"same {k}" for k in (1, 2, 3, 4) if chance.random() < 0.4] + ["answer"] * chance.randint(0, 1)
    kinds = {}
    while len(kinds) < len(labels):
        look = random_look([kind.split()[1] for kind in kinds], chance)
        kinds[chance.choice(("square",) * 6 + ("tails", "long")) + " " + look] = True
    return "".join(line + "\n" for line in ["locker L"] + [f"{label} {chance.choice((1, 1, 2, 8))} {kind}"
                                                           for label, kind in zip(labels, kinds)])


def random_light(chance):
    """A light: most colours in a class of their own, or all classes by chance."""
    if chance.random() < 0.2:
        return chance.choice((0, 2 ** 64 - 1, 0xfedcba9876543210, chance.randrange(2 ** 64)))
    return sum(chance.choice((colour, colour, colour, 0, 1)) * 16 ** colour for colour in range(16))


def random_sight(chance):
    """A light, a locker's text and that of a book for it in which some hoists may look alike in that light."""
    t = random_locker(chance)
    rows = rows_shown(t, chance.choice((1, 2, 2, 2, 3, 4)))
    return random_light(chance), t, random_book(t, rows, chance, 30)[1]
