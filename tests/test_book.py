"""How the calls read a book's text: entries, kinds of fault and their lines."""

import unittest

from flagbooks.desk import find, judge, row, says
from tests.helper import book_of_size, book_words, locker_words, many_rows, many_signs, text

T = text(locker_words([("A", 2), ("B", 1), ("CC", 8)], [(1, 1)], 1))
WIDE = text(locker_words(many_signs(48, 2)))


class BookTest(unittest.TestCase):
    def faulty(self, kind, line, words, t=T):
        """judge tells the fault, the others nothing but the refusal."""
        self.assertEqual(judge(t, text(words)), [-9, kind, line], words[:200])
        self.assertEqual(row(0, t, text(words)), [-9], words[:200])
        self.assertEqual(says(0, t, text(words)), [-9], words[:200])
        self.assertEqual(find(t, text(words), [0]), [-9], words[:200])

    def entry_faulty(self, kind, line):
        """As the first, as the only and as a later entry's line it has this kind of fault."""
        self.faulty(kind, 2, book_words([line]))
        self.faulty(kind, 2, book_words([line, "A.A x"]))
        self.faulty(kind, 3, book_words(["A x", line]))

    def good(self, lines, rows, t=T):
        b = text(book_words(lines))
        self.assertEqual(judge(t, b), [len(rows)])
        for place, (line, signs) in enumerate(zip(lines, rows)):
            meaning = text(line.split(" ", 1)[1])
            self.assertEqual(row(place, t, b), [len(signs)] + signs)
            self.assertEqual(says(place, t, b), [len(meaning)] + meaning)
            self.assertEqual(find(t, b, signs), [place])
        self.assertEqual(row(len(rows), t, b), [-4])
        self.assertEqual(says(len(rows), t, b), [-4])


class GoodBooks(BookTest):
    def test_no_one_and_many_entries(self):
        self.good([], [])
        self.good(["A go alongside"], [[0]])
        self.good(["A go", "CC stop", "A.B go alongside", "CC.A.A wait"], [[0], [2], [0, 1], [2, 0, 0]])

    def test_the_order_of_rows(self):
        self.good(["CC x", "A.CC x", "B.A x", "A.A.B x", "A.B.A x"], [[2], [0, 2], [1, 0], [0, 0, 1], [0, 1, 0]])

    def test_signs_are_ordered_by_number_not_by_name(self):
        t = text(locker_words([("Z", 1), ("A", 1)]))
        self.good(["Z x", "A x", "Z.A x", "A.Z x"], [[0], [1], [0, 1], [1, 0]], t)
        self.faulty(5, 3, book_words(["A x", "Z x"]), t)

    def test_rows_of_1_to_8_names(self):
        for length in range(1, 9):
            self.good([".".join(["CC"] * length) + " x"], [[2] * length])

    def test_names_of_8_bytes(self):
        t = text(locker_words([("ABCDEFGH", 8), ("01234567", 1)], name="LOCKER00"))
        rows = ".".join(["ABCDEFGH"] * 8)
        b = text(book_words(["ABCDEFGH x", f"{rows} y"], "BOOK9999", "LOCKER00"))
        self.assertEqual(judge(t, b), [2])
        self.assertEqual(row(1, t, b), [8, 0, 0, 0, 0, 0, 0, 0, 0])

    def test_meanings(self):
        for meaning in ("x", "~", "!", ".", "A", ".B x", "a b", "a b c", "m" * 64, "m " * 31 + "mm", "A.B go: 100%"):
            self.good([f"A {meaning}"], [[0]])

    def test_one_meaning_of_two_entries(self):
        self.good(["A x", "B x"], [[0], [1]])

    def test_all_entries_there_can_be(self):
        b = text(book_words(f"{told} x" for told in many_rows(2048)))
        self.assertEqual(judge(WIDE, b), [2048])
        self.assertEqual(row(0, WIDE, b), [1, 0])
        self.assertEqual(row(47, WIDE, b), [1, 47])
        self.assertEqual(row(48, WIDE, b), [2, 0, 0])
        self.assertEqual(row(2047, WIDE, b), [2, 41, 31])
        self.assertEqual(row(2048, WIDE, b), [-4])

    def test_the_longest_text(self):
        b = text(book_of_size(65536))
        self.assertEqual(len(b), 65536)
        self.assertEqual(judge(WIDE, b), [1000])
        self.assertEqual(row(999, WIDE, b), [2, 19, 39])


class HeadLines(BookTest):
    def test_texts_that_end_too_soon(self):
        self.faulty(1, 0, "")
        self.faulty(1, 0, "book X")
        self.faulty(1, 1, "book X\n")
        self.faulty(1, 1, "book X\nfor L")
        self.faulty(1, 1, "book X\nfor M")
        self.faulty(1, 1, "book X\nf")

    def test_line_0(self):
        for line in ("", "book", "book ", "book x", "book  X", " book X", "book X ", "Book X", "bookX", "book X Y",
                     "book ABCDEFGHI", "for L", "book X.", "book\tX", "book X\r", "locker L", "amend X"):
            self.faulty(1, 0, f"{line}\nfor L\nA go\n")
            self.faulty(1, 0, f"{line}\n")

    def test_line_1(self):
        for line in ("", "for", "for ", "for l", "for  L", " for L", "for L ", "For L", "forL", "for L L",
                     "for ABCDEFGHI", "book X", "for L\r", "A go", "for for"):
            self.faulty(1, 1, f"book X\n{line}\nA go\n")
            self.faulty(1, 1, f"book X\n{line}\n")

    def test_another_lockers_name(self):
        for name in ("M", "LL", "X", "0", "ABCDEFGH"):
            self.faulty(2, 1, f"book X\nfor {name}\nA go\n")
        self.faulty(2, 1, "book X\nfor M\n")
        self.faulty(2, 1, "book X\nfor M\nx")
        self.faulty(2, 1, book_words(["A go"], locker="LO"), text(locker_words([("A", 1)], name="LOC")))

    def test_the_heads_lines_are_no_entries(self):
        self.faulty(1, 2, "book X\nfor L\nbook X\n")
        self.faulty(1, 2, "book X\nfor L\nfor L\n")


class EntryLines(BookTest):
    def test_lines_that_are_none(self):
        for line in ("", " ", "A", "A ", " A x", "A  x", "A x ", "A x  y", "A\tx", "a x", "A. x", ".A x", "A..B x",
                     "A.b x", "A,B x", "A.B.", ". x", "A x\r", "A x\x00", "A x\x7f", "A x\x1f", "A x\xe9",
                     "A \x80", "A  ", "A-B x", "+ A x"):
            self.entry_faulty(1, line)

    def test_names_of_9_bytes(self):
        self.entry_faulty(3, "ABCDEFGH x")
        self.entry_faulty(1, "ABCDEFGHI x")
        self.entry_faulty(1, "A.ABCDEFGHI x")

    def test_rows_of_9_names(self):
        self.entry_faulty(1, ".".join(["CC"] * 9) + " x")
        self.entry_faulty(1, ".".join(["CC"] * 10) + " x")

    def test_meanings_of_65_bytes(self):
        self.entry_faulty(1, "B " + "m" * 65)
        self.entry_faulty(1, "B " + "m " * 32 + "m")

    def test_blanks_in_meanings(self):
        self.entry_faulty(1, "B  m")
        self.entry_faulty(1, "B m ")
        self.entry_faulty(1, "B m  m")
        self.entry_faulty(1, "B " + "m" * 63 + " ")

    def test_missing_line_end(self):
        self.faulty(1, 2, "book X\nfor L\nA go")
        self.faulty(1, 3, "book X\nfor L\nA go\nB go")
        self.faulty(1, 3, "book X\nfor L\nA go\nA go")
        self.faulty(1, 3, "book X\nfor L\nA go\n ")
        self.faulty(1, 3, "book X\nfor L\nA go\n\x00")

    def test_an_empty_line_at_the_end(self):
        self.faulty(1, 2, "book X\nfor L\n\n")
        self.faulty(1, 3, "book X\nfor L\nA go\n\n")

    def test_names_that_are_no_signs(self):
        for line in ("C x", "D x", "AA x", "A.D x", "D.A x", "A.A.A.A.A.A.A.D x", "L x", "X x", "1 x", "CCC x"):
            self.entry_faulty(3, line)

    def test_rows_that_are_not_shown(self):
        self.entry_faulty(4, "B.B.B x")
        self.entry_faulty(4, "A.B.B x")

    def test_rows_that_are_not_behind(self):
        self.faulty(5, 3, book_words(["A x", "A x"]))
        self.faulty(5, 3, book_words(["A x", "A y"]))
        self.faulty(5, 3, book_words(["B x", "A x"]))
        self.faulty(5, 3, book_words(["A.A x", "A x"]))
        self.faulty(5, 3, book_words(["A.A x", "CC x"]))
        self.faulty(5, 3, book_words(["A.B x", "A.A x"]))
        self.faulty(5, 3, book_words(["B.A x", "A.CC x"]))
        self.faulty(5, 4, book_words(["A x", "CC x", "B x"]))

    def test_the_2049th_entry(self):
        lines = [f"{told} x" for told in many_rows(2050)]
        self.faulty(6, 2050, book_words(lines[:2049]), WIDE)
        self.faulty(6, 2050, book_words(lines), WIDE)


class WhichFaultIsTold(BookTest):
    def test_of_two_in_one_line_the_lesser_kind(self):
        self.faulty(1, 3, book_words(["CC x", "D  x"]))
        self.faulty(1, 3, book_words(["CC x", "B.B.B x "]))
        self.faulty(3, 3, book_words(["A.A.A x", "B.B.B.D x"]))
        self.faulty(3, 3, book_words(["CC x", "D x"]))
        self.faulty(4, 3, book_words(["CC.CC.CC x", "B.B.B x"]))

    def test_of_a_2049th_entry_the_lesser_kind(self):
        lines = [f"{told} x" for told in many_rows(2048)]
        self.faulty(1, 2050, book_words(lines + ["S47.S47"]), WIDE)
        self.faulty(1, 2050, book_words(lines + ["S47.S47 x"])[:-1], WIDE)
        self.faulty(3, 2050, book_words(lines + ["S47.S48 x"]), WIDE)
        self.faulty(4, 2050, book_words(lines + ["S47.S47.S47 x"]), WIDE)
        self.faulty(5, 2050, book_words(lines + lines[-1:]), WIDE)

    def test_of_two_lines_the_first(self):
        self.faulty(1, 0, "bok X\nfor M\nD x\n")
        self.faulty(2, 1, "book X\nfor M\nA\n")
        self.faulty(3, 2, book_words(["D x", "A"]))
        self.faulty(4, 2, book_words(["B.B.B x", "A"]))
        self.faulty(5, 3, book_words(["B x", "A x", "D x"]))
        self.faulty(5, 3, book_words(["B x", "A x"]) + "A")


if __name__ == "__main__":
    unittest.main()
