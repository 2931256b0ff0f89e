"""The calls held against the rules' second writing, over many texts that are right or a little spoilt."""

import random
import unittest

from flagbooks.desk import amend, between, doubts, find, judge, means, row, says
from flagbooks.lockers import read_locker
from tests.helper import BOOKS, LOCKERS, MEANINGS, Judged, amend_words, book_words, locker_words, text
from tests.helper import lines_moved, random_book, random_changes, random_sight, rows_shown, spoilt
from tests.helper import second_amend, second_between, second_doubts, second_find, second_judge, second_means
from tests.helper import with_a_line


class AgainstTheSecondWriting(unittest.TestCase):
    def check(self, t, b):
        answer, entries = second_judge(text(t), text(b))
        self.assertEqual(judge(text(t), text(b)), answer, (t, b))
        if answer[0] < 0:
            self.assertEqual(row(0, text(t), text(b)), answer[:1], (t, b))
            self.assertEqual(says(0, text(t), text(b)), answer[:1], (t, b))
            self.assertEqual(find(text(t), text(b), [0]), answer[:1], (t, b))
        for i, (signs, meaning) in enumerate(entries):
            self.assertEqual(row(i, text(t), text(b)), [len(signs)] + signs, (t, b))
            self.assertEqual(says(i, text(t), text(b)), [len(meaning)] + meaning, (t, b))
            self.assertEqual(find(text(t), text(b), signs), [i], (t, b))
        return tuple(answer[:2]) if answer[0] < 0 else "taken"

    def test_spoilt_books(self):
        chance = random.Random(5)
        seen = {}
        for turn in range(4000):
            change = chance.choice((spoilt, lines_moved))
            outcome = self.check(chance.choice(LOCKERS), change(chance.choice(BOOKS), chance))
            seen[outcome] = seen.get(outcome, 0) + 1
        self.assertEqual(set(seen), {(-9, 1), (-9, 2), (-9, 3), (-9, 4), (-9, 5), "taken"})
        self.assertGreater(min(seen.values()), 20)

    def test_spoilt_lockers(self):
        chance = random.Random(7)
        for turn in range(3000):
            change = chance.choice((spoilt, lines_moved))
            t = change(chance.choice(LOCKERS), chance)
            self.assertEqual(read_locker(text(t)).fault, Judged(bytes(text(t))).fault or [], t)
            self.check(t, chance.choice(BOOKS))

    def test_rows_at_random(self):
        chance = random.Random(3)
        for turn in range(1500):
            sames = [(k, chance.choice((1, 1, 2, 3))) for k in (1, 2, 3, 4) if chance.random() < 0.6]
            signs = [(name, chance.choice((1, 1, 2, 3))) for name in ("A", "B", "C3")[:chance.randint(1, 3)]]
            names = [chance.choice(signs)[0] for place in range(chance.randint(1, 8))]
            self.check(locker_words(signs, sames), book_words([".".join(names) + " x"]))

    def test_rows_to_find_at_random(self):
        chance = random.Random(13)
        seen = {}
        for turn in range(6000):
            t, b = text(chance.choice(LOCKERS)), text(chance.choice(BOOKS))
            entries = second_judge(t, b)[1]
            signs = [chance.choice((0, 0, 1, 1, 2, 3, 4)) for place in range(chance.randint(0, 10))]
            if entries and chance.random() < 0.6:
                signs = list(chance.choice(entries)[0])
            if signs and chance.random() < 0.4:
                signs[chance.randrange(len(signs))] = chance.choice((0, 1, 2, 3, 4, 5, 6, 7, 48, 255))
            answer = second_find(t, b, signs)
            self.assertEqual(find(t, b, signs), answer, (t, b, signs))
            outcome = min(answer[0], 0)
            seen[outcome] = seen.get(outcome, 0) + 1
        self.assertEqual(set(seen), {0, -1, -4, -5, -9})
        self.assertGreater(min(seen.values()), 100)

    def test_meanings_at_random(self):
        chance = random.Random(23)
        seen = {}
        for turn in range(4000):
            t, b = chance.choice(LOCKERS), chance.choice(BOOKS)
            m = chance.choice(MEANINGS)
            entries = second_judge(text(t), text(b))[1]
            if entries and chance.random() < 0.6:
                m = bytes(chance.choice(entries)[1]).decode()
            if chance.random() < 0.5:
                m = spoilt(m, chance)
            answer = second_means(text(t), text(b), text(m))
            self.assertEqual(means(text(t), text(b), text(m)), answer, (t, b, m))
            outcome = min(answer[0], 0)
            seen[outcome] = seen.get(outcome, 0) + 1
        self.assertEqual(set(seen), {0, -1, -5, -9})
        self.assertGreater(min(seen.values()), 100)

    def test_amendments_at_random(self):
        """Amendments that are right, and such with a few bytes or lines spoilt."""
        chance = random.Random(29)
        seen = {}
        rows = {t: rows_shown(t) for t in LOCKERS}
        for turn in range(5000):
            t = chance.choice(LOCKERS)
            meanings, b = random_book(t, rows[t], chance)
            lines = random_changes(t, rows[t], meanings, chance)[0]
            lines = sorted(chance.sample(lines, min(len(lines), 6)), key=lines.index)
            if chance.random() < 0.4:
                lines = with_a_line(t, lines, meanings, chance)
            c = amend_words(lines, chance.choice("XXXXXXXXXY"))
            for change in chance.choice(((), (), (spoilt,), (lines_moved,), (lines_moved, spoilt))):
                c = change(c, chance)
            if chance.random() < 0.2:
                b = chance.choice((spoilt, lines_moved))(b, chance)
            answer = second_amend(text(t), text(b), text(c))
            self.assertEqual(amend(text(t), text(b), text(c)), answer, (t, b, c))
            outcome = tuple(answer[:2]) if answer[0] < 0 else "taken"
            seen[outcome] = seen.get(outcome, 0) + 1
        self.assertEqual(set(seen), {(-9, 0), (-9, 1), (-9, 2), (-9, 3), (-9, 4), (-9, 5), (-9, 6), "taken"})
        self.assertGreater(min(seen.values()), 50, seen)

    def test_two_books_at_random(self):
        chance = random.Random(61)
        seen = {}
        for turn in range(3000):
            t = chance.choice(LOCKERS)
            rows = chance.sample(rows_shown(t), min(len(rows_shown(t)), 10))
            rows = sorted(rows, key=lambda signs: (len(signs), signs))
            b, c = random_book(t, rows, chance)[1], random_book(t, rows, chance)[1]
            if chance.random() < 0.1:
                c = c.replace("book X", "book Y")
            if chance.random() < 0.1:
                b = chance.choice((spoilt, lines_moved))(b, chance)
            if chance.random() < 0.1:
                c = chance.choice((spoilt, lines_moved))(c, chance)
            if chance.random() < 0.05:
                t = chance.choice((spoilt, lines_moved))(t, chance)
            answer = second_between(text(t), text(b), text(c))
            self.assertEqual(between(text(t), text(b), text(c)), answer, (t, b, c))
            outcome = min(answer[0], 0)
            seen[outcome] = seen.get(outcome, 0) + 1
        self.assertEqual(set(seen), {0, -3, -6, -9})
        self.assertGreater(min(seen.values()), 50, seen)

    def test_doubts_at_random(self):
        chance = random.Random(67)
        seen = {}
        for turn in range(3000):
            light, t, b = random_sight(chance)
            side = chance.choice((0, 1, 2, 2))
            if chance.random() < 0.05:
                side = chance.choice((3, 4, 255, 2 ** 64 - 1))
            if chance.random() < 0.1:
                b = chance.choice((spoilt, lines_moved))(b, chance)
            if chance.random() < 0.1:
                t = chance.choice((spoilt, lines_moved))(t, chance)
            answer = second_doubts(light, side, text(t), text(b))
            self.assertEqual(doubts(light, side, text(t), text(b)), answer, (light, side, t, b))
            outcome = min(answer[0], 2)
            seen[outcome] = seen.get(outcome, 0) + 1
        self.assertEqual(set(seen), {0, 1, 2, -1, -6, -9})
        self.assertGreater(min(seen.values()), 50, seen)


if __name__ == "__main__":
    unittest.main()
