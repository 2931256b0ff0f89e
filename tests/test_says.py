"""What says tells: an entry's meaning, byte by byte."""

import unittest

from flagbooks.desk import says
from tests.helper import book_of_size, book_words, locker_words, many_rows, many_signs, text

T = text(locker_words([("A", 2), ("B", 1), ("CC", 8)], [(1, 1)], 1))
WIDE = text(locker_words(many_signs(48, 2)))
LAST = 18446744073709551615


class Says(unittest.TestCase):
    def told(self, meanings, lines, t=T):
        """The book with these lines says these meanings, and has no entry behind them."""
        b = text(book_words(lines))
        for i, meaning in enumerate(meanings):
            self.assertEqual(says(i, t, b), [len(meaning)] + [ord(letter) for letter in meaning])
        for i in (len(meanings), len(meanings) + 1, LAST):
            self.assertEqual(says(i, t, b), [-4])

    def test_the_documents_entry(self):
        b = text("book X\nfor L\nA.B go alongside\n")
        self.assertEqual(says(0, T, b), [12, 103, 111, 32, 97, 108, 111, 110, 103, 115, 105, 100, 101])

    def test_no_one_and_many_entries(self):
        self.told([], [])
        self.told(["go"], ["A go"])
        self.told(["go", "stop", "go alongside", "wait"], ["A go", "CC stop", "A.B go alongside", "CC.A.A wait"])

    def test_meanings_of_1_to_64_bytes(self):
        for length in range(1, 65):
            meaning = ("abcdefghij" * 7)[:length]
            self.told([meaning, meaning], [f"A {meaning}", f"B {meaning}"])

    def test_every_byte_that_a_meaning_may_have(self):
        for byte in range(33, 127):
            letter = [byte]
            b = text("book X\nfor L\nA ") + letter + text("\n")
            self.assertEqual(says(0, T, b), [1, byte])
            b = text("book X\nfor L\nA a ") + letter + text(" z\n")
            self.assertEqual(says(0, T, b), [5, 97, 32, byte, 32, 122])

    def test_full_stops_in_meanings(self):
        for meaning in (".", "..", "...", "A.B", ".A", "A.", "stop.", "a. b", "A.B go.", "." * 64):
            self.told([meaning, meaning], [f"A {meaning}", f"A.B {meaning}"])

    def test_single_blanks_in_meanings(self):
        for meaning in ("a b", "a b c", "A x", "B A", "m " * 31 + "mm", "m" * 31 + " " + "m" * 32):
            self.told([meaning, meaning], [f"A {meaning}", f"A.B {meaning}"])

    def test_meanings_like_lines_of_a_text(self):
        for meaning in ("book X", "for L", "A go", "+ A x", "A.B.CC", "10"):
            self.told([meaning], [f"A {meaning}"])

    def test_rows_of_1_to_8_signs(self):
        for length in range(1, 9):
            self.told(["so it is"], [".".join(["CC"] * length) + " so it is"])

    def test_one_meaning_of_two_entries(self):
        self.told(["x y", "x y", "x"], ["A x y", "B x y", "A.B x"])

    def test_all_entries_there_can_be(self):
        b = text(book_words(f"{told} no. {number}" for number, told in enumerate(many_rows(2048))))
        for i in (0, 1, 47, 48, 1000, 2046, 2047):
            self.assertEqual(says(i, WIDE, b), [len(f"no. {i}")] + text(f"no. {i}"))
        for i in (2048, 2049, LAST):
            self.assertEqual(says(i, WIDE, b), [-4])

    def test_a_2049th_entry(self):
        b = text(book_words(f"{told} x" for told in many_rows(2049)))
        for i in (0, 2047, 2048, LAST):
            self.assertEqual(says(i, WIDE, b), [-9])

    def test_how_long_a_text_may_be(self):
        b = text(book_of_size(65536))
        self.assertEqual(len(b), 65536)
        meanings = [line.split(" ", 1)[1] for line in bytes(b).decode().splitlines()[2:]]
        for i in (0, 500, 999):
            self.assertEqual(says(i, WIDE, b), [len(meanings[i])] + text(meanings[i]))
        self.assertEqual(says(1000, WIDE, b), [-4])
        self.assertEqual(says(0, WIDE, text(book_of_size(65537))), [-2])
        self.assertEqual(says(LAST, WIDE, b + [10] * (66000 - len(b))), [-2])

    def test_numbers_of_entries(self):
        b = text(book_words(["A go", "B stop"]))
        for i in (2, 3, 255, 256, 2047, 2048, 65536, 2 ** 31, 2 ** 32, 2 ** 32 + 1, 2 ** 63, LAST - 1, LAST):
            self.assertEqual(says(i, T, b), [-4])


class Refused(unittest.TestCase):
    def test_meanings_that_are_none(self):
        for meaning in ("", " ", " go", "go ", "go  on", "m" * 65, "go\t", "g\x7f", "\xe9", "\x00"):
            b = text(book_words([f"A {meaning}"]))
            self.assertEqual(says(0, T, b), [-9], meaning)
            self.assertEqual(says(LAST, T, b), [-9], meaning)

    def test_a_good_entry_ahead_of_a_fault(self):
        for line in ("A go", "D x", "B.B.B x", "B", "B  x"):
            self.assertEqual(says(0, T, text(book_words(["A go", line]))), [-9], line)
        self.assertEqual(says(0, T, text(book_words(["A go", "B stop"]))[:-1]), [-9])

    def test_the_order(self):
        good = text(book_words(["A go"]))
        for i in (0, 1, LAST):
            self.assertEqual(says(i, T, [0] * 65537), [-2])
            self.assertEqual(says(i, [0] * 65537, good), [-2])
            self.assertEqual(says(i, [], [0] * 65537), [-2])
            self.assertEqual(says(i, [], []), [-6])
            self.assertEqual(says(i, T[:-1], good), [-6])
            self.assertEqual(says(i, T, []), [-9])
        self.assertEqual(says(1, T, good), [-4])
        self.assertEqual(says(0, T, good), [2, 103, 111])


if __name__ == "__main__":
    unittest.main()
