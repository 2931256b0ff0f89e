"""What find tells: the number of the entry with a row, or why there's none."""

import itertools
import unittest

from flagbooks.desk import find, judge, row
from tests.helper import book_of_size, book_words, locker_words, many_rows, many_signs, text

# Kinds: signs 0, 1, 2; sames 3, 4; the answer 5.
T = text(locker_words([("A", 2), ("B", 1), ("CC", 8)], [(1, 1), (3, 1)], 1))
EMPTY = text(book_words([]))
B = text(book_words(["A go", "CC stop", "A.B go alongside", "B.CC.A wait", "CC.A.A x", "A.B.CC.A.CC y"]))
ROWS = [[0], [2], [0, 1], [1, 2, 0], [2, 0, 0], [0, 1, 2, 0, 2]]
WIDE = text(locker_words(many_signs(48, 2)))


class Found(unittest.TestCase):
    def test_no_one_and_many_entries(self):
        self.assertEqual(find(T, EMPTY, [0]), [-5])
        self.assertEqual(find(T, text(book_words(["B go"])), [1]), [0])
        self.assertEqual(find(T, text(book_words(["B go"])), [0]), [-5])
        for number, signs in enumerate(ROWS):
            self.assertEqual(find(T, B, signs), [number])

    def test_rows_of_1_to_8_signs(self):
        b = text(book_words(".".join(["CC"] * length) + " x" for length in range(1, 9)))
        for length in range(1, 9):
            self.assertEqual(find(T, b, [2] * length), [length - 1])

    def test_what_row_tells_is_found(self):
        for number in range(judge(T, B)[0]):
            self.assertEqual(find(T, B, row(number, T, B)[1:]), [number])

    def test_signs_are_told_by_number_not_by_name(self):
        t = text(locker_words([("Z", 1), ("A", 1)]))
        b = text(book_words(["Z x", "A x", "A.Z x"]))
        self.assertEqual(find(t, b, [0]), [0])
        self.assertEqual(find(t, b, [1]), [1])
        self.assertEqual(find(t, b, [1, 0]), [2])
        self.assertEqual(find(t, b, [0, 1]), [-5])

    def test_all_entries_there_can_be(self):
        b = text(book_words(f"{told} x" for told in many_rows(2048)))
        for number, signs in ((0, [0]), (47, [47]), (48, [0, 0]), (1024, [20, 16]), (2046, [41, 30]),
                              (2047, [41, 31])):
            self.assertEqual(find(WIDE, b, signs), [number])
        for signs in ([41, 32], [47, 47], [0, 0, 0], [41, 31, 0]):
            self.assertEqual(find(WIDE, b, signs), [-5])
        self.assertEqual(find(WIDE, b, [48]), [-4])

    def test_a_2049th_entry(self):
        b = text(book_words(f"{told} x" for told in many_rows(2049)))
        for signs in ([0], [41, 32], [48], []):
            self.assertEqual(find(WIDE, b, signs), [-9])

    def test_how_long_a_text_may_be(self):
        b = text(book_of_size(65536))
        self.assertEqual(len(b), 65536)
        self.assertEqual(find(WIDE, b, [0]), [0])
        self.assertEqual(find(WIDE, b, [9, 20]), [500])
        self.assertEqual(find(WIDE, b, [19, 39]), [999])
        self.assertEqual(find(WIDE, b, [19, 40]), [-5])
        for signs in ([0], [19, 39], [48], []):
            self.assertEqual(find(WIDE, text(book_of_size(65537)), signs), [-2])
            self.assertEqual(find(WIDE, b + [10] * (66000 - len(b)), signs), [-2])


class NotFound(unittest.TestCase):
    def test_longer_or_shorter_by_one_sign(self):
        for signs in ROWS:
            others = [signs + [sign] for sign in range(3)] + [[sign] + signs for sign in range(3)]
            others += [signs[1:], signs[:-1]]
            for other in others:
                if other and other not in ROWS:
                    self.assertEqual(find(T, B, other), [-5], other)

    def test_the_longest_rows_longer_and_shorter_by_one(self):
        b = text(book_words(["CC.CC.CC.CC.CC.CC.CC x", "CC.CC.CC.CC.CC.CC.CC.CC x"]))
        self.assertEqual(find(T, b, [2] * 6), [-5])
        self.assertEqual(find(T, b, [2] * 7), [0])
        self.assertEqual(find(T, b, [2] * 8), [1])
        self.assertEqual(find(T, b, [2] * 9), [-1])

    def test_the_same_signs_in_another_order(self):
        for signs in ROWS:
            for other in itertools.permutations(signs):
                if list(other) != signs:
                    self.assertEqual(find(T, B, list(other)), [-5], other)

    def test_rows_that_no_hoist_can_show(self):
        for signs in ([1, 1, 1], [0, 1, 1], [1] * 8, [0] * 8, [0, 0, 0, 0, 0, 0]):
            written = ".".join(["A", "B", "CC"][sign] for sign in signs)
            self.assertEqual(judge(T, text(book_words([f"{written} x"]))), [-9, 4, 2], signs)
            for b in (EMPTY, B):
                self.assertEqual(find(T, b, signs), [-5], signs)

    def test_a_row_is_not_its_hoist(self):
        """A row that a same can show is asked for by its signs, never by the same."""
        b = text(book_words(["B.B x"]))
        self.assertEqual(find(T, b, [1, 1]), [0])
        self.assertEqual(find(T, b, [1, 3]), [-4])


class Refused(unittest.TestCase):
    def test_how_many_numbers(self):
        for b in (EMPTY, B):
            self.assertEqual(find(T, b, []), [-1])
            self.assertEqual(find(T, b, [0] * 8), [-5])
            for length in (9, 10, 255, 256, 264, 999, 1000):
                self.assertEqual(find(T, b, [0] * length), [-1], length)
                self.assertEqual(find(T, b, (ROWS[-1] * 200)[:length]), [-1], length)

    def test_numbers_that_are_no_signs(self):
        for other in (3, 4, 5, 6, 48, 128, 254, 255):
            for length in range(1, 9):
                for place in range(length):
                    signs = [2] * length
                    signs[place] = other
                    self.assertEqual(find(T, B, signs), [-4], signs)
                    self.assertEqual(find(T, EMPTY, signs), [-4], signs)

    def test_the_number_behind_the_last_sign(self):
        for count in (1, 2, 47, 48):
            for sames, answer in (((), 0), ([(1, 1)], 0), ((), 1), ([(1, 1), (4, 2)], 3)):
                t = text(locker_words(many_signs(count, 1), sames, answer))
                b = text(book_words([f"S{count - 1:02} x"]))
                self.assertEqual(find(t, b, [count - 1]), [0])
                for other in (count, count + 1, count + 2, count + 3, 255):
                    self.assertEqual(find(t, b, [other]), [-4])
                    self.assertEqual(find(t, b, [0, other]), [-4])
                    self.assertEqual(find(t, b, [other, 0]), [-4])

    def test_the_length_comes_before_the_numbers(self):
        for other in (3, 5, 6, 255):
            self.assertEqual(find(T, B, [other] * 8), [-4])
            self.assertEqual(find(T, B, [other] * 9), [-1])
            self.assertEqual(find(T, B, [other] + [0] * 8), [-1])
            self.assertEqual(find(T, B, [0] * 8 + [other]), [-1])
            self.assertEqual(find(T, B, [other] * 1000), [-1])

    def test_the_numbers_come_before_there_is_none(self):
        self.assertEqual(find(T, EMPTY, [0]), [-5])
        self.assertEqual(find(T, EMPTY, [3]), [-4])
        self.assertEqual(find(T, B, [1, 1, 1]), [-5])
        self.assertEqual(find(T, B, [1, 1, 1, 255]), [-4])

    def test_the_texts_come_before_the_row(self):
        for signs in ([0], [0, 0], [3], [255], [], [0] * 9, [255] * 1000):
            self.assertEqual(find([0] * 65537, B, signs), [-2])
            self.assertEqual(find(T, [0] * 65537, signs), [-2])
            self.assertEqual(find([], [0] * 65537, signs), [-2])
            self.assertEqual(find([], [], signs), [-6])
            self.assertEqual(find(T[:-1], B, signs), [-6])
            self.assertEqual(find(T, [], signs), [-9])
            self.assertEqual(find(T, B[:-1], signs), [-9])
            self.assertEqual(find(T, B + text("A x\n"), signs), [-9])

    def test_a_good_entry_ahead_of_a_fault(self):
        for line in ("A go", "D x", "B.B.B x", "B", "B  x"):
            self.assertEqual(find(T, text(book_words(["A go", line])), [0]), [-9], line)


if __name__ == "__main__":
    unittest.main()
