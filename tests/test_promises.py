"""Promises 1 to 5, each over many books."""

import itertools
import random
import unittest

from flagbooks.books import read_book
from flagbooks.desk import amend, between, doubts, find, judge, row, says
from flagbooks.lockers import read_locker
from tests.helper import BOOKS, LOCKERS, amend_words, book_words, locker_words, text
from tests.helper import lines_moved, random_book, random_changes, random_locker, random_sight, rows_shown, spoilt


def text_of(locker, book):
    """The one text of a book that was read."""
    names = {number: bytes(name).decode() for name, number in locker.signs.items()}
    rows = [".".join(names[sign] for sign in entry.row) for entry in book.entries]
    lines = [told + " " + bytes(entry.meaning).decode() for told, entry in zip(rows, book.entries)]
    return text(book_words(lines, bytes(book.name).decode(), bytes(locker.name).decode()))


class OneTextOneBook(unittest.TestCase):
    def test_a_text_tells_one_book(self):
        t = LOCKERS[1]
        b = text(BOOKS[3])
        book = read_book(read_locker(text(t)), b)
        self.assertEqual(book.fault, [])
        self.assertEqual(book.name, text("X"))
        self.assertEqual([entry.row for entry in book.entries],
                         [[0], [1], [0, 1], [1, 0, 1], [0, 1, 1, 0, 1, 1]])
        self.assertEqual([bytes(entry.meaning) for entry in book.entries],
                         [b"one", b"two", b"go alongside", b"100% sure", b"six"])
        self.assertEqual([row(i, text(t), b)[1:] for i in range(5)], [entry.row for entry in book.entries])
        self.assertEqual([says(i, text(t), b)[1:] for i in range(5)], [entry.meaning for entry in book.entries])

    def test_the_calls_tell_all_that_a_text_says(self):
        """From what judge, row and says answer the entries' lines can be written again, byte by byte."""
        told = 0
        for t, b in itertools.product(LOCKERS, BOOKS):
            count = judge(text(t), text(b))[0]
            names = [line.split()[1] for line in t.splitlines() if line.startswith("sign")]
            lines = []
            for i in range(max(count, 0)):
                signs, meaning = row(i, text(t), text(b)), says(i, text(t), text(b))
                self.assertEqual((signs[0], meaning[0]), (len(signs) - 1, len(meaning) - 1))
                lines.append(".".join(names[sign] for sign in signs[1:]) + " " + bytes(meaning[1:]).decode())
            if count >= 0:
                self.assertEqual(book_words(lines), b)
                told = told + count
        self.assertGreater(told, 10)

    def test_a_book_has_one_text(self):
        """Whatever text is taken is the text that its book is written in, so no other text tells that book."""
        chance = random.Random(11)
        taken = 0
        for turn in range(4000):
            locker = read_locker(text(chance.choice(LOCKERS)))
            b = text(chance.choice((spoilt, lines_moved))(chance.choice(BOOKS), chance))
            book = read_book(locker, b)
            if book.fault == []:
                taken = taken + 1
                self.assertEqual(text_of(locker, book), b)
        self.assertGreater(taken, 300)

    def test_other_ways_to_write_a_book_are_refused(self):
        t = text(LOCKERS[0])
        self.assertEqual(judge(t, text("book X\nfor L\nA go\n")), [1])
        for words in ("book X\nfor L\nA go", "book X\r\nfor L\r\nA go\r\n", "book X\nfor L\nA go\n\n",
                      "book X\nfor L\n\nA go\n", "book X \nfor L\nA go\n", "book X\nfor L\nA  go\n",
                      "book X\nfor L\nA go \n", "\nbook X\nfor L\nA go\n", "book x\nfor L\nA go\n",
                      "for L\nbook X\nA go\n", "book X\nfor L\nA go\nA go\n", "book X\nfor L\nA\tgo\n"):
            self.assertEqual(judge(t, text(words))[0], -9, words)


class OneEntryForARow(unittest.TestCase):
    """Promise 2: each row has one entry at most, found just if it's there."""

    def test_every_row_is_found_just_if_it_is_there(self):
        t = text(LOCKERS[1])
        rows = [list(signs) for length in range(1, 5) for signs in itertools.product(range(3), repeat=length)]
        for b in map(text, (BOOKS[0], BOOKS[1], BOOKS[2], BOOKS[3])):
            there = [row(i, t, b)[1:] for i in range(judge(t, b)[0])]
            for signs in rows + there:
                self.assertEqual(find(t, b, signs), [there.index(signs)] if signs in there else [-5], signs)

    def test_no_row_stands_twice(self):
        t = text(LOCKERS[1])
        lines = BOOKS[3].splitlines()[2:]
        for place, line in itertools.product(range(len(lines) + 1), lines):
            for again in (line, line + " again"):
                b = text(book_words(lines[:place] + [again] + lines[place:]))
                self.assertEqual(judge(t, b)[:2], [-9, 5])
                self.assertEqual(find(t, b, [0]), [-9])
                self.assertEqual(says(0, t, b), [-9])


class JustWhatTheAmendmentSays(unittest.TestCase):
    """Promise 3: amended, the book has just what the amendment says, all else as it was."""

    def test_each_row_of_the_book_amended(self):
        """Row by row: what the amendment speaks of is as it says, every other row is there just if it was, and as
        it was."""
        chance = random.Random(17)
        for turn in range(150):
            t = chance.choice(LOCKERS)
            rows = chance.sample(rows_shown(t), min(12, len(rows_shown(t))))
            rows = sorted(rows, key=lambda signs: (len(signs), signs))
            meanings, b = random_book(t, rows, chance)
            lines, made = random_changes(t, rows, meanings, chance)
            answer = amend(text(t), text(b), text(amend_words(lines)))
            amended = answer[1:]
            self.assertEqual(answer[0], len(amended))
            self.assertEqual(judge(text(t), amended), [len(made)])
            for signs in rows:
                found = find(text(t), amended, list(signs))[0]
                self.assertEqual(found >= 0, signs in made)
                if found >= 0:
                    self.assertEqual(bytes(says(found, text(t), amended)[1:]).decode(), made[signs])

    def test_the_name_and_the_locker_are_as_they_were(self):
        t = locker_words([("A", 1), ("B", 1)], name="LOCK")
        for name in ("X", "EDITION9"):
            b = book_words(["A go"], name, "LOCK")
            made = amend(text(t), text(b), text(amend_words(["- A", "+ B x"], name)))
            self.assertEqual(bytes(made[1:]).decode(), book_words(["B x"], name, "LOCK"))

    def test_an_amendment_that_changes_nothing(self):
        taken = 0
        for t, b in itertools.product(LOCKERS, BOOKS):
            if judge(text(t), text(b))[0] >= 0:
                taken = taken + 1
                self.assertEqual(amend(text(t), text(b), text("amend X\n")), [len(b)] + text(b))
        self.assertGreater(taken, 8)

    def test_one_line_at_a_time_makes_the_same_book(self):
        chance = random.Random(19)
        for turn in range(60):
            t = chance.choice(LOCKERS)
            meanings, b = random_book(t, rows_shown(t), chance)
            lines, made = random_changes(t, rows_shown(t), meanings, chance)
            once = amend(text(t), text(b), text(amend_words(lines)))
            step = text(b)
            for line in chance.sample(lines, len(lines)):
                step = amend(text(t), step, text(amend_words([line])))[1:]
            self.assertEqual(once[1:], step)

    def test_no_part_of_a_wrong_amendment_is_done(self):
        t, b = text(LOCKERS[1]), text(BOOKS[3])
        for line in ("+ A x", "- C3", "= C3 x", "+ D x", "x", "= A.B go alongside"):
            answer = amend(t, b, text(amend_words(["= A first", line])))
            self.assertEqual((answer[0], len(answer)), (-9, 3), line)


class BetweenTwoBooks(unittest.TestCase):
    """Promise 4: the amendment between two makes the second of the first, and it's the only one."""

    def two_books(self, chance):
        """A locker's text and two books for it, whose rows are partly the same."""
        t = chance.choice(LOCKERS + (random_locker(chance),))
        rows = chance.sample(rows_shown(t), min(12, len(rows_shown(t))))
        rows = sorted(rows, key=lambda signs: (len(signs), signs))
        return [text(t)] + [text(random_book(t, rows, chance, 12)[1]) for book in range(2)]

    def test_it_makes_the_second_of_the_first(self):
        chance = random.Random(71)
        for turn in range(400):
            t, b, c = self.two_books(chance)
            there, back = between(t, b, c), between(t, c, b)
            self.assertEqual((there[0], back[0]), (len(there) - 1, len(back) - 1))
            self.assertEqual(amend(t, b, there[1:]), [len(c)] + c)
            self.assertEqual(amend(t, c, back[1:]), [len(b)] + b)
            self.assertEqual(there == back, b == c)

    def test_any_amendment_is_told_again(self):
        """So no other amendment than the one told makes the second book of the first."""
        chance = random.Random(73)
        changing = 0
        for turn in range(400):
            t = chance.choice(LOCKERS + (random_locker(chance),))
            rows = chance.sample(rows_shown(t), min(12, len(rows_shown(t))))
            rows = sorted(rows, key=lambda signs: (len(signs), signs))
            meanings, b = random_book(t, rows, chance)
            words = text(amend_words(random_changes(t, rows, meanings, chance)[0]))
            made = amend(text(t), text(b), words)[1:]
            self.assertEqual(between(text(t), text(b), made), [len(words)] + words)
            changing = changing + (made != text(b))
        self.assertGreater(changing, 200)

    def test_spoilt_amendments_that_are_taken_are_told_again(self):
        chance = random.Random(79)
        taken = 0
        for turn in range(1500):
            t, b, c = self.two_books(chance)
            words = between(t, b, c)[1:]
            other = text(chance.choice((spoilt, lines_moved))(bytes(words).decode(), chance))
            made = amend(t, b, other)
            if made[0] >= 0:
                taken = taken + 1
                self.assertEqual(between(t, b, made[1:]), [len(other)] + other)
                self.assertEqual(made[1:] == c, other == words)
        self.assertGreater(taken, 200)

    def test_nothing_stands_between_a_book_and_itself(self):
        taken = 0
        for t, b in itertools.product(LOCKERS, BOOKS):
            if judge(text(t), text(b))[0] >= 0:
                taken = taken + 1
                self.assertEqual(between(text(t), text(b), text(b)), [8] + text("amend X\n"))
        self.assertGreater(taken, 8)

    def test_by_way_of_a_third_book(self):
        chance = random.Random(83)
        for turn in range(100):
            t = chance.choice(LOCKERS)
            b, c, third = (text(random_book(t, rows_shown(t), chance)[1]) for book in range(3))
            step = amend(text(t), b, between(text(t), b, third)[1:])[1:]
            self.assertEqual(amend(text(t), step, between(text(t), third, c)[1:])[1:], c)


class Classes(unittest.TestCase):
    """Promise 5: which entries can be taken for one another parts them into classes."""

    def books(self, seed, turns):
        """A light, a locker's and a book's text, and how many entries the book has."""
        chance = random.Random(seed)
        for turn in range(turns):
            light, t, b = random_sight(chance)
            yield light, text(t), text(b), judge(text(t), text(b))[0]

    def pairs(self, light, side, t, b):
        answer = doubts(light, side, t, b)
        self.assertEqual(len(answer), 1 + 2 * answer[0])
        return list(zip(answer[1::2], answer[2::2]))

    def test_pairs_rise(self):
        for light, t, b, count in self.books(89, 300):
            for side in (0, 1, 2):
                pairs = self.pairs(light, side, t, b)
                self.assertEqual(pairs, sorted(set(pairs)))
                self.assertTrue(all(0 <= i < j < count for i, j in pairs))

    def test_it_goes_on_from_one_to_the_next(self):
        """Whoever is alike to a third is alike to one another: no entry is in two classes."""
        large = 0
        for light, t, b, count in self.books(97, 500):
            for side in (0, 1, 2):
                pairs = self.pairs(light, side, t, b)
                both_ways = set(pairs) | {(j, i) for i, j in pairs} | {(i, i) for i in range(count)}
                alike = [frozenset(j for j in range(count) if (i, j) in both_ways) for i in range(count)]
                for i, j in both_ways:
                    self.assertEqual(alike[i], alike[j])
                self.assertEqual(sum(len(told) for told in set(alike)), count)
                large = large + (max(map(len, alike), default=0) > 2)
        self.assertGreater(large, 80)

    def test_it_is_the_same_both_ways(self):
        """With the signs the other way round in the locker, the two entries change their places and stay a pair."""
        alike = 0
        for one, other in itertools.permutations(("1000", "0001", "2000", "0002", "1001", "2002"), 2):
            lines = [f"sign {name} 1 square {told}{'0' * 12}\n" for name, told in (("A", one), ("B", other))]
            for light, side in itertools.product((0, 0xfedcba9876543210, 0xfedcba9876543220), (0, 1, 2)):
                there = doubts(light, side, text("locker L\n" + "".join(lines)), text(book_words(["A x", "B x"])))
                back = doubts(light, side, text("locker L\n" + "".join(lines[::-1])), text(book_words(["B x", "A x"])))
                self.assertEqual(there, back)
                alike = alike + there[0]
        self.assertGreater(alike, 100)

    def test_classes_of_one_side_and_of_either(self):
        """From either side no pair is lost; from behind there are those that there are from the front."""
        more = 0
        for light, t, b, count in self.books(101, 500):
            front, behind, either = (self.pairs(light, side, t, b) for side in (0, 1, 2))
            self.assertEqual(front, behind)
            self.assertLessEqual(set(front), set(either))
            more = more + (len(either) > len(front))
        self.assertGreater(more, 30)

    def test_where_all_colours_differ_no_two_entries_are_alike(self):
        for light, t, b, count in self.books(103, 200):
            for distinct in (0xfedcba9876543210, 0x0123456789abcdef):
                self.assertEqual(doubts(distinct, 0, t, b), [0])
                self.assertEqual(doubts(distinct, 1, t, b), [0])

    def test_a_light_with_fewer_classes_loses_no_pair(self):
        for light, t, b, count in self.books(107, 300):
            fewer = sum((light // 16 ** colour % 16) // 2 * 16 ** colour for colour in range(16))
            for side in (0, 1, 2):
                self.assertLessEqual(set(self.pairs(light, side, t, b)), set(self.pairs(fewer, side, t, b)))
                self.assertLessEqual(set(self.pairs(fewer, side, t, b)), set(self.pairs(0, side, t, b)))


if __name__ == "__main__":
    unittest.main()
