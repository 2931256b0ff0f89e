"""Promises 1 to 3, and the calls held against the rules' second writing over many spoilt texts."""

import itertools
import random
import unittest

from flagbooks.books import read_book
from flagbooks.desk import amend, find, judge, means, row, says
from flagbooks.hoists import can_show
from flagbooks.lockers import read_locker
from tests.helper import Judged, amend_words, book_words, locker_words, text
from tests.helper import second_amend, second_find, second_judge, second_means

LOCKERS = (
    locker_words([("A", 1)]),
    locker_words([("A", 1), ("B", 2), ("C3", 1)], [(1, 1), (2, 2)], 1),
    locker_words([("B", 1), ("A", 3)], [(2, 1), (3, 1), (4, 8)]),
    locker_words([("Q", 2), ("A", 1), ("B", 1), ("C3", 1)], (), 3),
)
BOOKS = (
    book_words([]),
    book_words(["A go"]),
    book_words(["A go", "A.A stop at once"]),
    book_words(["A one", "B two", "A.B go alongside", "B.A.B 100% sure", "A.B.B.A.B.B six"]),
    book_words(["B two", "A one", "B.A x", "B.A.A.A y", "A.B.B.A.A.A.B.B eight of them"]),
    book_words(["Q q", "C3 c", "Q.Q q q", "Q.A.B.C3.Q all there is"]),
)
MEANINGS = ("go", "stop", "x", "go alongside", "one", "+ A x", "100% sure", "m" * 64)
PIECES = ("\n", " ", ".", "A", "B", "C3", "Q", "x", "1", "9", "0", "same", "sign", "A x\n", "A.B y\n", "\r", "\xff",
          "~")


def text_of(locker, book):
    """The one text of a book that was read."""
    names = {number: bytes(name).decode() for name, number in locker.signs.items()}
    rows = [".".join(names[sign] for sign in entry.row) for entry in book.entries]
    lines = [told + " " + bytes(entry.meaning).decode() for told, entry in zip(rows, book.entries)]
    return text(book_words(lines, bytes(book.name).decode(), bytes(locker.name).decode()))


def spoilt(words, chance):
    """The text with one to three small changes."""
    for change in range(chance.randint(1, 3)):
        place = chance.randint(0, len(words))
        reach = chance.choice((0, 0, 1, 1, 2, 5, 12))
        piece = chance.choice(PIECES + ("", "", words[place:place + reach] * 2))
        words = words[:place] + piece + words[place + reach:]
    return words


def lines_moved(words, chance):
    """The text with a line elsewhere, twice or gone."""
    lines = words.splitlines(keepends=True)
    line = lines[chance.randrange(len(lines))]
    if chance.random() < 0.7:
        lines.remove(line)
    if chance.random() < 0.7:
        lines.insert(chance.randint(0, len(lines)), line)
    return "".join(lines)


def rows_shown(t):
    """Rows of up to four signs that a hoist alone can show out of the locker, in the order of rows."""
    locker = read_locker(text(t))
    rows = [signs for length in range(1, 5) for signs in itertools.product(range(len(locker.signs)), repeat=length)]
    return [signs for signs in rows if can_show(locker, list(signs))]


def written(t, signs):
    """A row's word."""
    names = [line.split()[1] for line in t.splitlines() if line.startswith("sign")]
    return ".".join(names[sign] for sign in signs)


def random_book(t, rows, chance):
    """Meanings by their rows, a few of these rows, and the text of the book that has them."""
    chosen = sorted(chance.sample(rows, chance.randint(0, min(8, len(rows)))), key=rows.index)
    meanings = {signs: chance.choice(MEANINGS) for signs in chosen}
    return meanings, book_words(f"{written(t, signs)} {meanings[signs]}" for signs in chosen)


def random_changes(t, rows, meanings, chance):
    """Lines of an amendment on a book with these meanings, and the meanings by their rows that it makes."""
    made, lines = {}, []
    for signs in rows:
        meaning = chance.choice(MEANINGS)
        word = written(t, signs)
        if signs not in meanings and chance.random() < 0.2:
            made[signs] = meaning
            lines.append(f"+ {word} {meaning}")
        elif signs in meanings and chance.random() < 0.3:
            lines.append(f"- {word}")
        elif signs in meanings and chance.random() < 0.4 and meaning != meanings[signs]:
            made[signs] = meaning
            lines.append(f"= {word} {meaning}")
        elif signs in meanings:
            made[signs] = meanings[signs]
    return lines, made


def with_a_line(t, lines, meanings, chance):
    """The lines of an amendment with another whose row and mark come by chance, mostly where its row must stand."""
    names = [line.split()[1] for line in t.splitlines() if line.startswith("sign")]
    signs = tuple(chance.randrange(len(names)) for place in range(chance.randint(1, 5)))
    if meanings and chance.random() < 0.5:
        signs = chance.choice(list(meanings))
    meaning = chance.choice((meanings.get(signs, "x"), "x"))
    mark = chance.choice("+-=")
    added = f"{mark} {written(t, signs)}" + (f" {meaning}" if mark != "-" else "")
    told = lines + [added]
    if chance.random() < 0.8:
        rows = {line: [names.index(name) for name in line.split()[1].split(".")] for line in told}
        told = sorted(told, key=lambda line: (len(rows[line]), rows[line]))
    return told


class OneTextOneBook(unittest.TestCase):
    def test_a_text_tells_one_book(self):
        t = LOCKERS[1]
        b = text(BOOKS[3])
        book = read_book(read_locker(text(t)), b)
        self.assertEqual(book.fault, [])
        self.assertEqual(book.name, text("X"))
        self.assertEqual([entry.row for entry in book.entries],
                         [[0], [1], [0, 1], [1, 0, 1], [0, 1, 1, 0, 1, 1]])
        self.assertEqual([bytes(entry.meaning) for entry in book.entries],
                         [b"one", b"two", b"go alongside", b"100% sure", b"six"])
        self.assertEqual([row(i, text(t), b)[1:] for i in range(5)], [entry.row for entry in book.entries])
        self.assertEqual([says(i, text(t), b)[1:] for i in range(5)], [entry.meaning for entry in book.entries])

    def test_the_calls_tell_all_that_a_text_says(self):
        """From what judge, row and says answer the entries' lines can be written again, byte by byte."""
        told = 0
        for t, b in itertools.product(LOCKERS, BOOKS):
            count = judge(text(t), text(b))[0]
            names = [line.split()[1] for line in t.splitlines() if line.startswith("sign")]
            lines = []
            for i in range(max(count, 0)):
                signs, meaning = row(i, text(t), text(b)), says(i, text(t), text(b))
                self.assertEqual((signs[0], meaning[0]), (len(signs) - 1, len(meaning) - 1))
                lines.append(".".join(names[sign] for sign in signs[1:]) + " " + bytes(meaning[1:]).decode())
            if count >= 0:
                self.assertEqual(book_words(lines), b)
                told = told + count
        self.assertGreater(told, 10)

    def test_a_book_has_one_text(self):
        """Whatever text is taken is the text that its book is written in, so no other text tells that book."""
        chance = random.Random(11)
        taken = 0
        for turn in range(4000):
            locker = read_locker(text(chance.choice(LOCKERS)))
            b = text(chance.choice((spoilt, lines_moved))(chance.choice(BOOKS), chance))
            book = read_book(locker, b)
            if book.fault == []:
                taken = taken + 1
                self.assertEqual(text_of(locker, book), b)
        self.assertGreater(taken, 300)

    def test_other_ways_to_write_a_book_are_refused(self):
        t = text(LOCKERS[0])
        self.assertEqual(judge(t, text("book X\nfor L\nA go\n")), [1])
        for words in ("book X\nfor L\nA go", "book X\r\nfor L\r\nA go\r\n", "book X\nfor L\nA go\n\n",
                      "book X\nfor L\n\nA go\n", "book X \nfor L\nA go\n", "book X\nfor L\nA  go\n",
                      "book X\nfor L\nA go \n", "\nbook X\nfor L\nA go\n", "book x\nfor L\nA go\n",
                      "for L\nbook X\nA go\n", "book X\nfor L\nA go\nA go\n", "book X\nfor L\nA\tgo\n"):
            self.assertEqual(judge(t, text(words))[0], -9, words)


class OneEntryForARow(unittest.TestCase):
    """Promise 2: each row has one entry at most, found just if it's there."""

    def test_every_row_is_found_just_if_it_is_there(self):
        t = text(LOCKERS[1])
        rows = [list(signs) for length in range(1, 5) for signs in itertools.product(range(3), repeat=length)]
        for b in map(text, (BOOKS[0], BOOKS[1], BOOKS[2], BOOKS[3])):
            there = [row(i, t, b)[1:] for i in range(judge(t, b)[0])]
            for signs in rows + there:
                self.assertEqual(find(t, b, signs), [there.index(signs)] if signs in there else [-5], signs)

    def test_no_row_stands_twice(self):
        t = text(LOCKERS[1])
        lines = BOOKS[3].splitlines()[2:]
        for place, line in itertools.product(range(len(lines) + 1), lines):
            for again in (line, line + " again"):
                b = text(book_words(lines[:place] + [again] + lines[place:]))
                self.assertEqual(judge(t, b)[:2], [-9, 5])
                self.assertEqual(find(t, b, [0]), [-9])
                self.assertEqual(says(0, t, b), [-9])


class JustWhatTheAmendmentSays(unittest.TestCase):
    """Promise 3: amended, the book has just what the amendment says, all else as it was."""

    def test_each_row_of_the_book_amended(self):
        """Row by row: what the amendment speaks of is as it says, every other row is there just if it was, and as
        it was."""
        chance = random.Random(17)
        for turn in range(150):
            t = chance.choice(LOCKERS)
            rows = chance.sample(rows_shown(t), min(12, len(rows_shown(t))))
            rows = sorted(rows, key=lambda signs: (len(signs), signs))
            meanings, b = random_book(t, rows, chance)
            lines, made = random_changes(t, rows, meanings, chance)
            answer = amend(text(t), text(b), text(amend_words(lines)))
            amended = answer[1:]
            self.assertEqual(answer[0], len(amended))
            self.assertEqual(judge(text(t), amended), [len(made)])
            for signs in rows:
                found = find(text(t), amended, list(signs))[0]
                self.assertEqual(found >= 0, signs in made)
                if found >= 0:
                    self.assertEqual(bytes(says(found, text(t), amended)[1:]).decode(), made[signs])

    def test_the_name_and_the_locker_are_as_they_were(self):
        t = locker_words([("A", 1), ("B", 1)], name="LOCK")
        for name in ("X", "EDITION9"):
            b = book_words(["A go"], name, "LOCK")
            made = amend(text(t), text(b), text(amend_words(["- A", "+ B x"], name)))
            self.assertEqual(bytes(made[1:]).decode(), book_words(["B x"], name, "LOCK"))

    def test_an_amendment_that_changes_nothing(self):
        taken = 0
        for t, b in itertools.product(LOCKERS, BOOKS):
            if judge(text(t), text(b))[0] >= 0:
                taken = taken + 1
                self.assertEqual(amend(text(t), text(b), text("amend X\n")), [len(b)] + text(b))
        self.assertGreater(taken, 8)

    def test_one_line_at_a_time_makes_the_same_book(self):
        chance = random.Random(19)
        for turn in range(60):
            t = chance.choice(LOCKERS)
            meanings, b = random_book(t, rows_shown(t), chance)
            lines, made = random_changes(t, rows_shown(t), meanings, chance)
            once = amend(text(t), text(b), text(amend_words(lines)))
            step = text(b)
            for line in chance.sample(lines, len(lines)):
                step = amend(text(t), step, text(amend_words([line])))[1:]
            self.assertEqual(once[1:], step)

    def test_no_part_of_a_wrong_amendment_is_done(self):
        t, b = text(LOCKERS[1]), text(BOOKS[3])
        for line in ("+ A x", "- C3", "= C3 x", "+ D x", "x", "= A.B go alongside"):
            answer = amend(t, b, text(amend_words(["= A first", line])))
            self.assertEqual((answer[0], len(answer)), (-9, 3), line)


class AgainstTheSecondWriting(unittest.TestCase):
    def check(self, t, b):
        answer, entries = second_judge(text(t), text(b))
        self.assertEqual(judge(text(t), text(b)), answer, (t, b))
        if answer[0] < 0:
            self.assertEqual(row(0, text(t), text(b)), answer[:1], (t, b))
            self.assertEqual(says(0, text(t), text(b)), answer[:1], (t, b))
            self.assertEqual(find(text(t), text(b), [0]), answer[:1], (t, b))
        for i, (signs, meaning) in enumerate(entries):
            self.assertEqual(row(i, text(t), text(b)), [len(signs)] + signs, (t, b))
            self.assertEqual(says(i, text(t), text(b)), [len(meaning)] + meaning, (t, b))
            self.assertEqual(find(text(t), text(b), signs), [i], (t, b))
        return tuple(answer[:2]) if answer[0] < 0 else "taken"

    def test_spoilt_books(self):
        chance = random.Random(5)
        seen = {}
        for turn in range(4000):
            change = chance.choice((spoilt, lines_moved))
            outcome = self.check(chance.choice(LOCKERS), change(chance.choice(BOOKS), chance))
            seen[outcome] = seen.get(outcome, 0) + 1
        self.assertEqual(set(seen), {(-9, 1), (-9, 2), (-9, 3), (-9, 4), (-9, 5), "taken"})
        self.assertGreater(min(seen.values()), 20)

    def test_spoilt_lockers(self):
        chance = random.Random(7)
        for turn in range(3000):
            change = chance.choice((spoilt, lines_moved))
            t = change(chance.choice(LOCKERS), chance)
            self.assertEqual(read_locker(text(t)).fault, Judged(bytes(text(t))).fault or [], t)
            self.check(t, chance.choice(BOOKS))

    def test_rows_at_random(self):
        chance = random.Random(3)
        for turn in range(1500):
            sames = [(k, chance.choice((1, 1, 2, 3))) for k in (1, 2, 3, 4) if chance.random() < 0.6]
            signs = [(name, chance.choice((1, 1, 2, 3))) for name in ("A", "B", "C3")[:chance.randint(1, 3)]]
            names = [chance.choice(signs)[0] for place in range(chance.randint(1, 8))]
            self.check(locker_words(signs, sames), book_words([".".join(names) + " x"]))

    def test_rows_to_find_at_random(self):
        chance = random.Random(13)
        seen = {}
        for turn in range(6000):
            t, b = text(chance.choice(LOCKERS)), text(chance.choice(BOOKS))
            entries = second_judge(t, b)[1]
            signs = [chance.choice((0, 0, 1, 1, 2, 3, 4)) for place in range(chance.randint(0, 10))]
            if entries and chance.random() < 0.6:
                signs = list(chance.choice(entries)[0])
            if signs and chance.random() < 0.4:
                signs[chance.randrange(len(signs))] = chance.choice((0, 1, 2, 3, 4, 5, 6, 7, 48, 255))
            answer = second_find(t, b, signs)
            self.assertEqual(find(t, b, signs), answer, (t, b, signs))
            outcome = min(answer[0], 0)
            seen[outcome] = seen.get(outcome, 0) + 1
        self.assertEqual(set(seen), {0, -1, -4, -5, -9})
        self.assertGreater(min(seen.values()), 100)

    def test_meanings_at_random(self):
        chance = random.Random(23)
        seen = {}
        for turn in range(4000):
            t, b = chance.choice(LOCKERS), chance.choice(BOOKS)
            m = chance.choice(MEANINGS)
            entries = second_judge(text(t), text(b))[1]
            if entries and chance.random() < 0.6:
                m = bytes(chance.choice(entries)[1]).decode()
            if chance.random() < 0.5:
                m = spoilt(m, chance)
            answer = second_means(text(t), text(b), text(m))
            self.assertEqual(means(text(t), text(b), text(m)), answer, (t, b, m))
            outcome = min(answer[0], 0)
            seen[outcome] = seen.get(outcome, 0) + 1
        self.assertEqual(set(seen), {0, -1, -5, -9})
        self.assertGreater(min(seen.values()), 100)

    def test_amendments_at_random(self):
        """Amendments that are right, and such with a few bytes or lines spoilt."""
        chance = random.Random(29)
        seen = {}
        rows = {t: rows_shown(t) for t in LOCKERS}
        for turn in range(5000):
            t = chance.choice(LOCKERS)
            meanings, b = random_book(t, rows[t], chance)
            lines = random_changes(t, rows[t], meanings, chance)[0]
            lines = sorted(chance.sample(lines, min(len(lines), 6)), key=lines.index)
            if chance.random() < 0.4:
                lines = with_a_line(t, lines, meanings, chance)
            c = amend_words(lines, chance.choice("XXXXXXXXXY"))
            for change in chance.choice(((), (), (spoilt,), (lines_moved,), (lines_moved, spoilt))):
                c = change(c, chance)
            if chance.random() < 0.2:
                b = chance.choice((spoilt, lines_moved))(b, chance)
            answer = second_amend(text(t), text(b), text(c))
            self.assertEqual(amend(text(t), text(b), text(c)), answer, (t, b, c))
            outcome = tuple(answer[:2]) if answer[0] < 0 else "taken"
            seen[outcome] = seen.get(outcome, 0) + 1
        self.assertEqual(set(seen), {(-9, 0), (-9, 1), (-9, 2), (-9, 3), (-9, 4), (-9, 5), (-9, 6), "taken"})
        self.assertGreater(min(seen.values()), 50, seen)


if __name__ == "__main__":
    unittest.main()
