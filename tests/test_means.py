"""What means tells: the number of the first entry with a meaning, or why there's none."""

import unittest

from flagbooks.desk import find, judge, means, says
from tests.helper import book_of_size, book_words, locker_words, many_rows, many_signs, text

T = text(locker_words([("A", 2), ("B", 1), ("CC", 8)], [(1, 1)], 1))
EMPTY = text(book_words([]))
LINES = ["A go", "B stop", "CC go", "A.B go alongside", "A.CC stop", "B.A A.B", "B.B stop.", "CC.A.A go"]
B = text(book_words(LINES))
WIDE = text(locker_words(many_signs(48, 2)))
# No bytes; 65 and more; a blank at either end; two side by side; bytes below 32 or above 126.
NO_MEANINGS = ([], [109] * 65, [109] * 66, [109] * 128, [109] * 1000, [32], [32, 32], [32] * 64, text(" go"),
               text("go "), text(" go "), text("go  on"), text("go   on"), [103, 31], [10], text("go\n"), text("\ngo"),
               [9, 103], [103, 9, 103], [0], [0] * 64, [127], [103, 111, 127], [128], [160], [255], [255] * 1000,
               text("m" * 64 + " "), text(" " + "m" * 64), text("m " * 32), [109] * 64 + [10], [109] * 63 + [127])


class Found(unittest.TestCase):
    def test_a_meaning_that_one_entry_has(self):
        self.assertEqual(means(T, B, text("go alongside")), [3])
        self.assertEqual(means(T, B, text("A.B")), [5])
        self.assertEqual(means(T, B, text("stop.")), [6])
        self.assertEqual(means(T, text(book_words(["B go"])), text("go")), [0])

    def test_of_several_the_first_is_told(self):
        self.assertEqual(means(T, B, text("go")), [0])
        self.assertEqual(means(T, B, text("stop")), [1])
        b = text(book_words(f"{told} {'x' if number % 3 else 'y'}" for number, told in enumerate(many_rows(300))))
        self.assertEqual(means(WIDE, b, text("y")), [0])
        self.assertEqual(means(WIDE, b, text("x")), [1])

    def test_what_says_tells_is_found(self):
        meanings = [says(i, T, B)[1:] for i in range(judge(T, B)[0])]
        for meaning in meanings:
            self.assertEqual(means(T, B, meaning), [meanings.index(meaning)])

    def test_meanings_of_1_to_64_bytes(self):
        for length in range(1, 65):
            meaning = ("abcdefghij" * 7)[:length]
            b = text(book_words(["A go", f"B {meaning}", f"CC {meaning}"]))
            self.assertEqual(means(T, b, text(meaning)), [1])
            self.assertEqual(means(T, EMPTY, text(meaning)), [-5])

    def test_every_byte_that_a_meaning_may_have(self):
        for byte in range(33, 127):
            b = text("book X\nfor L\nA xx\nB ") + [byte] + text("\nCC a ") + [byte] + text(" z\n")
            self.assertEqual(means(T, b, [byte]), [1])
            self.assertEqual(means(T, b, [97, 32, byte, 32, 122]), [2])
            self.assertEqual(means(T, B, [byte]), [-5])

    def test_blanks_and_full_stops(self):
        for meaning in ("a b", "a b c", ".", "A.B", "m " * 31 + "mm", "." * 64, "A.B go alongside", "book X"):
            b = text(book_words(["A go", f"A.B {meaning}"]))
            self.assertEqual(means(T, b, text(meaning)), [1], meaning)
            self.assertEqual(means(T, b, text("go")), [0])

    def test_all_entries_there_can_be(self):
        b = text(book_words(f"{told} no. {number}" for number, told in enumerate(many_rows(2048))))
        for i in (0, 1, 47, 48, 1000, 2046, 2047):
            self.assertEqual(means(WIDE, b, text(f"no. {i}")), [i])
        self.assertEqual(means(WIDE, b, text("no. 2048")), [-5])

    def test_how_long_a_text_may_be(self):
        b = text(book_of_size(65536))
        self.assertEqual(len(b), 65536)
        self.assertEqual(means(WIDE, b, [109] * 57), [0])
        shorter = [line.split(" ", 1)[1] for line in bytes(b).decode().splitlines()[2:]].index("m" * 56)
        self.assertEqual(means(WIDE, b, [109] * 56), [shorter])
        self.assertEqual(means(WIDE, b, [109] * 58), [-5])
        for m in ([109] * 57, [109], []):
            self.assertEqual(means(WIDE, text(book_of_size(65537)), m), [-2])
            self.assertEqual(means(WIDE, b + [10] * (66000 - len(b)), m), [-2])


class NotFound(unittest.TestCase):
    def test_a_meaning_that_none_has(self):
        for meaning in ("wait", "go along", "go alongsid", "go alongside it", "g", "o", "alongside", "Go", "GO",
                        "stop..", "A", "B", "A.CC", "A go", "X", "L", "book X", "for L", "~", "!", "m" * 64):
            self.assertEqual(means(T, B, text(meaning)), [-5], meaning)

    def test_no_entries(self):
        for meaning in ("go", "X", "m" * 64):
            self.assertEqual(means(T, EMPTY, text(meaning)), [-5])

    def test_one_byte_more_or_less(self):
        b = text(book_words(["A " + "m" * 63]))
        self.assertEqual(means(T, b, [109] * 62), [-5])
        self.assertEqual(means(T, b, [109] * 63), [0])
        self.assertEqual(means(T, b, [109] * 64), [-5])
        self.assertEqual(means(T, b, [109] * 65), [-1])


class Refused(unittest.TestCase):
    def test_what_is_no_meaning(self):
        for b in (B, EMPTY):
            for m in NO_MEANINGS:
                self.assertEqual(means(T, b, m), [-1], m)

    def test_every_other_byte(self):
        for byte in list(range(32)) + list(range(127, 256)):
            for m in ([byte], [103, byte], [byte, 103], [103, byte, 103], [103] * 63 + [byte]):
                self.assertEqual(means(T, B, m), [-1], m)

    def test_a_blank_may_only_stand_between(self):
        self.assertEqual(means(T, B, [103, 32, 103]), [-5])
        for m in ([32, 103], [103, 32], [103, 32, 32, 103]):
            self.assertEqual(means(T, B, m), [-1], m)

    def test_the_texts_come_before_the_meaning(self):
        for m in (text("go"), text("wait")) + NO_MEANINGS:
            self.assertEqual(means([0] * 65537, B, m), [-2])
            self.assertEqual(means(T, [0] * 65537, m), [-2])
            self.assertEqual(means([], [0] * 65537, m), [-2])
            self.assertEqual(means([], [], m), [-6])
            self.assertEqual(means(T[:-1], B, m), [-6])
            self.assertEqual(means(T, [], m), [-9])
            self.assertEqual(means(T, B[:-1], m), [-9])
            self.assertEqual(means(T, B + text("A x\n"), m), [-9])

    def test_a_good_entry_ahead_of_a_fault(self):
        for line in ("A go", "D x", "B.B.B x", "B", "B  x"):
            self.assertEqual(means(T, text(book_words(["A go", line])), text("go")), [-9], line)

    def test_a_meaning_is_no_row(self):
        self.assertEqual(means(T, B, [0]), [-1])
        self.assertEqual(find(T, B, [0]), [0])


if __name__ == "__main__":
    unittest.main()
