"""Promises 1 and 2, and the calls held against the rules' second writing over many spoilt texts."""

import itertools
import random
import unittest

from flagbooks.books import read_book
from flagbooks.desk import find, judge, row, says
from flagbooks.lockers import read_locker
from tests.helper import Judged, book_words, locker_words, second_find, second_judge, text

LOCKERS = (
    locker_words([("A", 1)]),
    locker_words([("A", 1), ("B", 2), ("C3", 1)], [(1, 1), (2, 2)], 1),
    locker_words([("B", 1), ("A", 3)], [(2, 1), (3, 1), (4, 8)]),
    locker_words([("Q", 2), ("A", 1), ("B", 1), ("C3", 1)], (), 3),
)
BOOKS = (
    book_words([]),
    book_words(["A go"]),
    book_words(["A go", "A.A stop at once"]),
    book_words(["A one", "B two", "A.B go alongside", "B.A.B 100% sure", "A.B.B.A.B.B six"]),
    book_words(["B two", "A one", "B.A x", "B.A.A.A y", "A.B.B.A.A.A.B.B eight of them"]),
    book_words(["Q q", "C3 c", "Q.Q q q", "Q.A.B.C3.Q all there is"]),
)
PIECES = ("\n", " ", ".", "A", "B", "C3", "Q", "x", "1", "9", "0", "same", "sign", "A x\n", "A.B y\n", "\r", "\xff",
          "~")


def text_of(locker, book):
    """The one text of a book that was read."""
    names = {number: bytes(name).decode() for name, number in locker.signs.items()}
    rows = [".".join(names[sign] for sign in entry.row) for entry in book.entries]
    lines = [told + " " + bytes(entry.meaning).decode() for told, entry in zip(rows, book.entries)]
    return text(book_words(lines, bytes(book.name).decode(), bytes(locker.name).decode()))


def spoilt(words, chance):
    """The text with one to three small changes."""
    for change in range(chance.randint(1, 3)):
        place = chance.randint(0, len(words))
        reach = chance.choice((0, 0, 1, 1, 2, 5, 12))
        piece = chance.choice(PIECES + ("", "", words[place:place + reach] * 2))
        words = words[:place] + piece + words[place + reach:]
    return words


def lines_moved(words, chance):
    """The text with a line elsewhere, twice or gone."""
    lines = words.splitlines(keepends=True)
    line = lines[chance.randrange(len(lines))]
    if chance.random() < 0.7:
        lines.remove(line)
    if chance.random() < 0.7:
        lines.insert(chance.randint(0, len(lines)), line)
    return "".join(lines)


class OneTextOneBook(unittest.TestCase):
    def test_a_text_tells_one_book(self):
        t = LOCKERS[1]
        b = text(BOOKS[3])
        book = read_book(read_locker(text(t)), b)
        self.assertEqual(book.fault, [])
        self.assertEqual(book.name, text("X"))
        self.assertEqual([entry.row for entry in book.entries],
                         [[0], [1], [0, 1], [1, 0, 1], [0, 1, 1, 0, 1, 1]])
        self.assertEqual([bytes(entry.meaning) for entry in book.entries],
                         [b"one", b"two", b"go alongside", b"100% sure", b"six"])
        self.assertEqual([row(i, text(t), b)[1:] for i in range(5)], [entry.row for entry in book.entries])
        self.assertEqual([says(i, text(t), b)[1:] for i in range(5)], [entry.meaning for entry in book.entries])

    def test_the_calls_tell_all_that_a_text_says(self):
        """From what judge, row and says answer the entries' lines can be written again, byte by byte."""
        told = 0
        for t, b in itertools.product(LOCKERS, BOOKS):
            count = judge(text(t), text(b))[0]
            names = [line.split()[1] for line in t.splitlines() if line.startswith("sign")]
            lines = []
            for i in range(max(count, 0)):
                signs, meaning = row(i, text(t), text(b)), says(i, text(t), text(b))
                self.assertEqual((signs[0], meaning[0]), (len(signs) - 1, len(meaning) - 1))
                lines.append(".".join(names[sign] for sign in signs[1:]) + " " + bytes(meaning[1:]).decode())
            if count >= 0:
                self.assertEqual(book_words(lines), b)
                told = told + count
        self.assertGreater(told, 10)

    def test_a_book_has_one_text(self):
        """Whatever text is taken is the text that its book is written in, so no other text tells that book."""
        chance = random.Random(11)
        taken = 0
        for turn in range(4000):
            locker = read_locker(text(chance.choice(LOCKERS)))
            b = text(chance.choice((spoilt, lines_moved))(chance.choice(BOOKS), chance))
            book = read_book(locker, b)
            if book.fault == []:
                taken = taken + 1
                self.assertEqual(text_of(locker, book), b)
        self.assertGreater(taken, 300)

    def test_other_ways_to_write_a_book_are_refused(self):
        t = text(LOCKERS[0])
        self.assertEqual(judge(t, text("book X\nfor L\nA go\n")), [1])
        for words in ("book X\nfor L\nA go", "book X\r\nfor L\r\nA go\r\n", "book X\nfor L\nA go\n\n",
                      "book X\nfor L\n\nA go\n", "book X \nfor L\nA go\n", "book X\nfor L\nA  go\n",
                      "book X\nfor L\nA go \n", "\nbook X\nfor L\nA go\n", "book x\nfor L\nA go\n",
                      "for L\nbook X\nA go\n", "book X\nfor L\nA go\nA go\n", "book X\nfor L\nA\tgo\n"):
            self.assertEqual(judge(t, text(words))[0], -9, words)


class OneEntryForARow(unittest.TestCase):
    """Promise 2: each row has one entry at most, found just if it's there."""

    def test_every_row_is_found_just_if_it_is_there(self):
        t = text(LOCKERS[1])
        rows = [list(signs) for length in range(1, 5) for signs in itertools.product(range(3), repeat=length)]
        for b in map(text, (BOOKS[0], BOOKS[1], BOOKS[2], BOOKS[3])):
            there = [row(i, t, b)[1:] for i in range(judge(t, b)[0])]
            for signs in rows + there:
                self.assertEqual(find(t, b, signs), [there.index(signs)] if signs in there else [-5], signs)

    def test_no_row_stands_twice(self):
        t = text(LOCKERS[1])
        lines = BOOKS[3].splitlines()[2:]
        for place, line in itertools.product(range(len(lines) + 1), lines):
            for again in (line, line + " again"):
                b = text(book_words(lines[:place] + [again] + lines[place:]))
                self.assertEqual(judge(t, b)[:2], [-9, 5])
                self.assertEqual(find(t, b, [0]), [-9])
                self.assertEqual(says(0, t, b), [-9])


class AgainstTheSecondWriting(unittest.TestCase):
    def check(self, t, b):
        answer, entries = second_judge(text(t), text(b))
        self.assertEqual(judge(text(t), text(b)), answer, (t, b))
        if answer[0] < 0:
            self.assertEqual(row(0, text(t), text(b)), answer[:1], (t, b))
            self.assertEqual(says(0, text(t), text(b)), answer[:1], (t, b))
            self.assertEqual(find(text(t), text(b), [0]), answer[:1], (t, b))
        for i, (signs, meaning) in enumerate(entries):
            self.assertEqual(row(i, text(t), text(b)), [len(signs)] + signs, (t, b))
            self.assertEqual(says(i, text(t), text(b)), [len(meaning)] + meaning, (t, b))
            self.assertEqual(find(text(t), text(b), signs), [i], (t, b))
        return tuple(answer[:2]) if answer[0] < 0 else "taken"

    def test_spoilt_books(self):
        chance = random.Random(5)
        seen = {}
        for turn in range(4000):
            change = chance.choice((spoilt, lines_moved))
            outcome = self.check(chance.choice(LOCKERS), change(chance.choice(BOOKS), chance))
            seen[outcome] = seen.get(outcome, 0) + 1
        self.assertEqual(set(seen), {(-9, 1), (-9, 2), (-9, 3), (-9, 4), (-9, 5), "taken"})
        self.assertGreater(min(seen.values()), 20)

    def test_spoilt_lockers(self):
        chance = random.Random(7)
        for turn in range(3000):
            change = chance.choice((spoilt, lines_moved))
            t = change(chance.choice(LOCKERS), chance)
            self.assertEqual(read_locker(text(t)).fault, Judged(bytes(text(t))).fault or [], t)
            self.check(t, chance.choice(BOOKS))

    def test_rows_at_random(self):
        chance = random.Random(3)
        for turn in range(1500):
            sames = [(k, chance.choice((1, 1, 2, 3))) for k in (1, 2, 3, 4) if chance.random() < 0.6]
            signs = [(name, chance.choice((1, 1, 2, 3))) for name in ("A", "B", "C3")[:chance.randint(1, 3)]]
            names = [chance.choice(signs)[0] for place in range(chance.randint(1, 8))]
            self.check(locker_words(signs, sames), book_words([".".join(names) + " x"]))

    def test_rows_to_find_at_random(self):
        chance = random.Random(13)
        seen = {}
        for turn in range(6000):
            t, b = text(chance.choice(LOCKERS)), text(chance.choice(BOOKS))
            entries = second_judge(t, b)[1]
            signs = [chance.choice((0, 0, 1, 1, 2, 3, 4)) for place in range(chance.randint(0, 10))]
            if entries and chance.random() < 0.6:
                signs = list(chance.choice(entries)[0])
            if signs and chance.random() < 0.4:
                signs[chance.randrange(len(signs))] = chance.choice((0, 1, 2, 3, 4, 5, 6, 7, 48, 255))
            answer = second_find(t, b, signs)
            self.assertEqual(find(t, b, signs), answer, (t, b, signs))
            outcome = min(answer[0], 0)
            seen[outcome] = seen.get(outcome, 0) + 1
        self.assertEqual(set(seen), {0, -1, -4, -5, -9})
        self.assertGreater(min(seen.values()), 100)


if __name__ == "__main__":
    unittest.main()
