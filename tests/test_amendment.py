"""Which texts are amendments on a book, and what amend answers of those that aren't."""

import unittest

from flagbooks.desk import amend, judge
from tests.helper import amend_words, book_words, locker_words, text
from tests.helper import book_of_size, differ_at, lines_of_size, many_rows, many_signs

T = text(locker_words([("A", 2), ("B", 1), ("CC", 8)], [(1, 1)], 1))
LINES = ["A go", "A.B go alongside", "CC.A.A so"]
B = text(book_words(LINES))
EMPTY = text(book_words([]))
WIDE = text(locker_words(many_signs(48, 2)))
# What can stand in no line behind line 0.
NO_LINES = (
    "", " ", "+", "-", "=", "+ ", "- ", "= ", "+ B", "= A", "+ B ", "= A ", "A x", "B x", "B", "x", "* B x", "~ A",
    "add B x", "++ B x", "-- A", "+- B x", "== A x", "+B x", "-A", "=A x", "+  B x", "-  A", "=  A x", "+ B  x",
    "= A  x", "+\tB x", "-\tA", "+ B\tx", " + B x", " - A", " = A x", "- A ", "- A x", "- A  ", "- A go", "- A -",
    "- A.B go alongside", "+ B x ", "+ B x  y", "= A x  y", "= A x ", "+ B \x7f", "+ B \x1f", "+ B \xe9", "+ B x\r",
    "- A\r", "- A\t", "+ b x", "- a", "= a x", "+ B. x", "+ .B x", "- A.", "- .A", "= A. x", "= .A x", "- .", "+ . x",
    "- A..B", "+ A..B x", "= A..B x", "- A,B", "+ A,B x", "- A/B", "+ ABCDEFGHI x", "- ABCDEFGHI", "= ABCDEFGHI x",
    "+ A.ABCDEFGHI x", "- A.ABCDEFGHI", "+ B " + "m" * 65, "= A " + "m" * 65, "+ B " + "m " * 32 + "m",
    "+ " + ".".join(["CC"] * 9) + " x", "- " + ".".join(["CC"] * 9), "= " + ".".join(["CC"] * 9) + " x",
    "+ " + ".".join(["CC"] * 100) + " x", "amend X", "book X", "for L", "+ A.B.", "- A.B.", "-", "- A\x00", "\x00",
    "+ B x\x00", "- + A", "+ + B x", "+ - B", "+, B x", "+. B x", "+ .", "- \xc1", "+ B x\x80",
)


class Judging(unittest.TestCase):
    def fault(self, kind, line, changes, b=B, t=T):
        """The amendment of these lines on the book has this fault."""
        self.assertEqual(amend(t, b, text(amend_words(changes))), [-9, kind, line], changes)

    def taken(self, changes, b=B, t=T):
        self.assertGreater(amend(t, b, text(amend_words(changes)))[0], 0, changes)

    def told(self, answer, words, b=B, t=T):
        self.assertEqual(amend(t, b, text(words)), answer, words)


class Line0(Judging):
    def test_no_bytes(self):
        self.told([-9, 1, 0], "")
        self.told([-9, 1, 0], "", EMPTY)

    def test_another_line(self):
        for line in ("", " ", "amend", "amend ", "amend x", "amend  X", " amend X", "amend X ", "amend X Y", "Amend X",
                     "AMEND X", "amendX", "amend\tX", "amend ABCDEFGHI", "amend X.Y", "amend X-", "amend \xc0",
                     "book X", "for L", "amended X", "amen X", "+ B x", "- A", "= A x", "locker L", "X", "amend X\r",
                     "amend X\x00", "amend Xx", "mend X"):
            self.told([-9, 1, 0], line + "\n")
            self.told([-9, 1, 0], line + "\n+ B x\n")
            self.told([-9, 1, 0], line)

    def test_the_line_end_is_missing(self):
        for words in ("amend X", "amend Y", "a", "amend", " ", "\x00"):
            self.told([-9, 1, 0], words)

    def test_another_books_name(self):
        for name in ("Y", "XX", "X0", "0", "L", "A", "Z", "ABCDEFGH"):
            self.told([-9, 2, 0], f"amend {name}\n")
            self.told([-9, 2, 0], f"amend {name}\n+ B x\n")
            self.told([-9, 2, 0], f"amend {name}\nnothing\n+ B x")
        b = text(book_words(["A go"], "ABCDEFGH"))
        for name in ("ABCDEFG", "ABCDEFGI", "BBCDEFGH", "X"):
            self.told([-9, 2, 0], f"amend {name}\n", b)
        self.assertGreater(amend(T, b, text("amend ABCDEFGH\n"))[0], 0)

    def test_line_0_stands_once(self):
        self.fault(1, 1, ["amend X"])
        self.fault(1, 2, ["+ B x", "amend X"])
        self.fault(1, 1, ["book X", "for L"])


class Kind1(Judging):
    def test_lines_that_are_none(self):
        for line in NO_LINES:
            self.fault(1, 1, [line])
            self.fault(1, 1, [line, "+ CC x"])
            self.fault(1, 2, ["+ B x", line])
            self.fault(1, 1, [line], EMPTY)

    def test_the_line_end_is_missing(self):
        for changes in (["+ B x"], ["- A"], ["= A x"], ["+ B x", "+ CC x"], ["- A", "+ B x", "- A.B"]):
            words = amend_words(changes)
            self.taken(changes)
            self.told([-9, 1, len(changes)], words[:-1])
            self.told([-9, 1, len(changes) + 1], words + "+")
            self.told([-9, 1, len(changes) + 1], words + "+ CC.CC.CC.CC x")
            self.told([-9, 1, len(changes) + 1], words + "\n")
            self.told([-9, 1, len(changes) + 1], words + " ")

    def test_a_blank_line(self):
        self.told([-9, 1, 1], "amend X\n\n")
        self.told([-9, 1, 1], "amend X\n\n+ B x\n")
        self.told([-9, 1, 0], "\namend X\n")

    def test_every_first_byte(self):
        for byte in range(256):
            for rest in (" B x\n", " A x\n", " A\n", "\n", " \n"):
                answer = amend(T, B, text("amend X\n") + [byte] + text(rest))
                if chr(byte) + rest in ("+ B x\n", "= A x\n", "- A\n"):
                    self.assertGreater(answer[0], 0)
                elif chr(byte) + rest in ("+ A x\n", "= B x\n"):
                    self.assertEqual(answer, [-9, 6, 1])
                else:
                    self.assertEqual(answer, [-9, 1, 1], (byte, rest))

    def test_every_byte_between_the_mark_and_the_row(self):
        for byte in range(256):
            for mark, rest in (("+", "B x\n"), ("-", "A\n"), ("=", "A x\n")):
                answer = amend(T, B, text("amend X\n" + mark) + [byte] + text(rest))
                self.assertEqual(answer[0] > 0, byte == 32)
                if byte != 32:
                    self.assertEqual(answer, [-9, 1, 1])

    def test_every_other_byte_in_a_meaning(self):
        for byte in list(range(10)) + list(range(11, 32)) + list(range(127, 256)):
            for mark in ("+ B", "= A"):
                for meaning in ([byte], [103, byte], [byte, 103], [103, byte, 103]):
                    c = text(f"amend X\n{mark} ") + meaning + [10]
                    self.assertEqual(amend(T, B, c), [-9, 1, 1], c)

    def test_rows_of_8_and_9_names(self):
        eight, nine = ".".join(["CC"] * 8), ".".join(["CC"] * 9)
        self.taken([f"+ {eight} x"])
        self.fault(6, 1, [f"- {eight}"])
        self.fault(6, 1, [f"= {eight} x"])
        for line in (f"+ {nine} x", f"- {nine}", f"= {nine} x"):
            self.fault(1, 1, [line])

    def test_meanings_of_64_and_65_bytes(self):
        for mark in ("+ B", "= A"):
            self.taken([f"{mark} " + "m" * 64])
            self.fault(1, 1, [f"{mark} " + "m" * 65])

    def test_a_dropped_entry_has_no_meaning(self):
        for rest in (" ", " go", " x", "  ", " -"):
            self.fault(1, 1, ["- A" + rest])
            self.fault(1, 1, ["- B" + rest])
            self.fault(1, 1, ["- D" + rest])

    def test_it_comes_before_every_other_kind(self):
        for line in ("+ D", "= D", "- D x", "+ B.B.B", "+ A", "= B", "- B x", "= A go ", "+ D  x", "- D.D.", "+ D x "):
            self.fault(1, 1, [line])
            self.fault(1, 2, ["+ CC.CC.CC.CC x", line])


class Kinds3To6(Judging):
    def test_a_name_that_is_no_signs(self):
        for name in ("D", "C", "AA", "AB", "CCC", "X", "L", "0", "1", "ABCDEFGH"):
            for word in (name, f"A.{name}", f"{name}.A", f"A.{name}.B", f"{name}.{name}"):
                for line in (f"+ {word} x", f"- {word}", f"= {word} x"):
                    self.fault(3, 1, [line])
                    self.fault(3, 2, ["+ CC.CC x", line])
                    self.fault(3, 1, [line], EMPTY)

    def test_a_name_that_is_no_signs_comes_before_4_to_6(self):
        self.fault(3, 1, ["+ B.B.B.D x"])
        self.fault(3, 1, ["+ D.B.B.B x"])
        self.fault(3, 2, ["+ CC.CC x", "+ D x"])
        self.fault(3, 2, ["+ CC.CC x", "- D"])
        self.fault(3, 2, ["+ CC.CC x", "= D x"])

    def test_a_new_row_that_no_hoist_can_show(self):
        for word in ("B.B.B", "A.B.B", "A.A.A.A", "CC.B.B", "CC.CC.B.B", "B.B.B.B.B.B.B.B"):
            self.assertEqual(judge(T, text(book_words([f"{word} x"]))), [-9, 4, 2])
            self.fault(4, 1, [f"+ {word} x"])
            self.fault(4, 2, ["- A", f"+ {word} x"])
            self.fault(4, 2, ["+ CC.CC.CC.CC.CC.CC.CC.CC x", f"+ {word} x"])
            self.fault(4, 1, [f"+ {word} x"], EMPTY)
        for word in ("B.B", "A.A", "A.A.A", "B.A.B", "B.B.A.A"):
            self.taken([f"+ {word} x"])

    def test_of_dropped_and_changed_rows_that_is_kind_6(self):
        for word in ("B.B.B", "A.B.B", "A.A.A.A", "CC.B.B", "B.B.B.B.B.B.B.B"):
            for b in (B, EMPTY):
                self.fault(6, 1, [f"- {word}"], b)
                self.fault(6, 1, [f"= {word} x"], b)
        self.fault(5, 2, ["+ CC.CC.CC.CC x", "- B.B.B"])
        self.fault(5, 2, ["+ CC.CC.CC.CC x", "= B.B.B x"])

    def test_the_copies_are_each_rows_own(self):
        self.taken(["+ B x", "+ B.A x", "+ B.B x", "+ B.B.A x"])

    def test_the_same_row_twice(self):
        lines = ("+ B x", "- A", "= A x", "+ B.B x", "- A.B", "= CC.A.A x")
        for line in lines:
            self.taken([line])
            self.fault(5, 2, [line, line])
        for first in ("- A", "= A x"):
            for second in ("+ A x", "- A", "= A y", "= A go", "= A x"):
                self.fault(5, 2, [first, second])
        for second in ("+ B y", "- B", "= B y", "= B x"):
            self.fault(5, 2, ["+ B x", second])

    def test_rows_in_another_order(self):
        self.taken(["= A x", "+ B x", "+ CC x", "= A.B x", "+ CC.B x", "= CC.A.A x"])
        lines = ["= A x", "+ B x", "+ CC x", "= A.B x", "+ CC.B x", "= CC.A.A x"]
        for place in range(1, len(lines)):
            swapped = lines[:place - 1] + [lines[place], lines[place - 1]] + lines[place + 1:]
            self.fault(5, place + 1, swapped)
        self.fault(5, 2, ["- A.B", "- A"])
        self.fault(5, 3, ["- A", "- CC.A.A", "- A.B"])

    def test_the_order_is_by_length_then_by_signs(self):
        self.taken(["+ CC x", "+ A.A x"])
        self.fault(5, 2, ["+ A.A x", "+ CC x"])
        self.taken(["+ B.CC x", "+ CC.A x"])
        self.fault(5, 2, ["+ CC.A x", "+ B.CC x"])
        t = text(locker_words([("Z", 1), ("A", 1)]))
        self.taken(["+ Z x", "+ A x"], EMPTY, t)
        self.fault(5, 2, ["+ A x", "+ Z x"], EMPTY, t)

    def test_the_order_comes_before_what_is_in_the_book(self):
        for line in ("+ A x", "- B", "= B x", "= A go"):
            self.fault(6, 1, [line])
            self.fault(5, 2, ["+ CC x", line])

    def test_a_new_row_that_is_in_the_book(self):
        for line in LINES:
            word = line.split()[0]
            for meaning in ("x", line.split(" ", 1)[1]):
                self.fault(6, 1, [f"+ {word} {meaning}"])
        self.fault(6, 3, ["= A x", "+ B y", "+ A.B z"])

    def test_a_row_that_is_not_in_the_book(self):
        for word in ("B", "CC", "A.A", "B.A", "A.CC", "A.B.CC", "CC.A", "CC.A.A.A"):
            for b in (B, EMPTY):
                self.fault(6, 1, [f"- {word}"], b)
                self.fault(6, 1, [f"= {word} x"], b)
                self.fault(6, 1, [f"= {word} go"], b)

    def test_what_it_means_already(self):
        for line in LINES:
            self.fault(6, 1, [f"= {line}"])
            self.taken([f"= {line}!"])
            self.taken([f"= {line} x"])

    def test_another_entrys_meaning_is_something_else(self):
        self.taken(["= A go alongside"])
        self.taken(["= A.B go"])

    def test_the_first_line_that_is_wrong_is_told(self):
        self.fault(6, 1, ["+ A x", "nothing"])
        self.fault(6, 1, ["- B", "+ D x"])
        self.fault(3, 1, ["+ D x", "nothing"])
        self.fault(4, 2, ["- A", "+ B.B.B x", "- A"])
        self.fault(5, 2, ["+ CC x", "+ B x", "+ B.B.B.B x"])
        self.told([-9, 6, 1], "amend X\n+ A x\n+ B")


class Kind7(Judging):
    rows = many_rows(2352)
    full = [f"{told} x" for told in rows[:2048]]

    def test_a_2049th_entry(self):
        b = text(book_words(self.full))
        self.fault(7, 2, [f"+ {self.rows[2048]} x"], b, WIDE)
        self.fault(7, 3, [f"+ {told} x" for told in self.rows[2048:2050]], b, WIDE)
        self.fault(7, 305, [f"+ {told} x" for told in self.rows[2048:]], b, WIDE)
        self.fault(7, 3, [f"= {self.rows[0]} y", f"+ {self.rows[2048]} x"], b, WIDE)
        self.fault(7, 2, [f"+ {self.rows[0]} x"], text(book_words(f"{told} x" for told in self.rows[1:2049])), WIDE)

    def test_all_of_them_new(self):
        self.fault(7, 2050, [f"+ {told} x" for told in self.rows[:2049]], EMPTY, WIDE)
        self.fault(7, 2353, [f"+ {told} x" for told in self.rows], EMPTY, WIDE)
        self.taken([f"+ {told} x" for told in self.rows[:2048]], EMPTY, WIDE)

    def test_a_line_that_makes_room(self):
        b = text(book_words(self.full))
        new = [f"+ {told} x" for told in self.rows[2048:2050]]
        self.taken([f"- {self.rows[0]}"] + new[:1], b, WIDE)
        self.fault(7, 4, [f"- {self.rows[0]}"] + new, b, WIDE)
        self.taken([f"- {self.rows[0]}", f"- {self.rows[2047]}"] + new, b, WIDE)
        behind = text(book_words(f"{told} x" for told in self.rows[2:2050]))
        self.taken([f"+ {self.rows[1]} x", f"- {self.rows[2049]}"], behind, WIDE)
        self.fault(7, 4, [f"+ {self.rows[0]} x", f"+ {self.rows[1]} x", f"- {self.rows[2049]}"], behind, WIDE)

    def test_2048_entries_kept(self):
        b = text(book_words(self.full))
        self.taken([], b, WIDE)
        self.taken([f"= {self.rows[0]} y"], b, WIDE)
        self.taken([f"+ {self.rows[2047]} x"], text(book_words(self.full[:-1])), WIDE)

    def test_it_comes_behind_every_other_kind(self):
        b = text(book_words(self.full))
        new = [f"+ {told} x" for told in self.rows[2048:2050]]
        for kind, line in ((1, "nothing"), (3, "+ D x"), (4, "+ S47.S47.S47 x"), (5, new[0]), (6, "- S47.S47")):
            self.fault(kind, 2, [new[0], line], b, WIDE)
        self.told([-9, 1, 2], amend_words(new)[:-1], b, WIDE)
        self.told([-9, 1, 2], amend_words(new[:1]) + "+", b, WIDE)


class Refused(Judging):
    no_books = ([], B[:-1], B + text("A x\n"), text("book X\n"), text("book X\nfor M\n"), text("amend X\n"), T,
                [0] * 65536, text(book_words(f"{told} x" for told in many_rows(2049))))
    texts = ([], text("amend X\n"), text("amend Y\n"), text("amend X\n+ B x\n"), text("amend X\n- A"), [0] * 65536, B)

    def test_no_books_text(self):
        for b in self.no_books:
            for c in self.texts:
                self.assertEqual(amend(T, b, c), [-9, 0, 0])
        for b in self.no_books[-1:]:
            self.assertEqual(judge(WIDE, b), [-9, 6, 2050])
            self.assertEqual(amend(WIDE, b, text("amend X\n")), [-9, 0, 0])

    def test_a_text_that_is_too_long_comes_first(self):
        good = text("amend X\n")
        for size in (65537, 65538, 66000):
            for long in ([0] * size, [10] * size):
                for t in (T, [], T[:-1], long):
                    for b in (B, []):
                        self.assertEqual(amend(t, b, long), [-2])
                        self.assertEqual(amend(t, long, good), [-2])
                        self.assertEqual(amend(long, b, good), [-2])
                        self.assertEqual(amend(long, b, []), [-2])

    def test_the_locker_comes_before_the_book_and_the_amendment(self):
        for t in ([], T[:-1], text("locker L\n"), B, [0] * 65536):
            for b in (B, EMPTY) + self.no_books:
                for c in self.texts:
                    self.assertEqual(amend(t, b, c), [-6])

    def test_a_book_is_no_amendment_and_an_amendment_no_book(self):
        self.assertEqual(amend(T, B, B), [-9, 1, 0])
        self.assertEqual(amend(T, B, T), [-9, 1, 0])
        self.assertEqual(amend(T, text("amend X\n"), B), [-9, 0, 0])
        self.assertEqual(judge(T, text("amend X\n")), [-9, 1, 0])

    def test_how_long_an_amendment_may_be(self):
        starts = ["+ " + told for told in many_rows(1000)]
        for size in (65536, 65537, 66000):
            c = text(amend_words(lines_of_size(starts, size - len("amend X\n"))))
            self.assertEqual(len(c), size)
            answer = amend(WIDE, EMPTY, c)
            self.assertEqual(answer[:1], [size + len("book X\nfor L\n") - len("amend X\n") - 2000] if size == 65536
                             else [-2])

    def test_long_texts_that_are_no_amendments(self):
        head = text("amend X\n")
        for byte in (0, 10, 32, 43, 46, 65, 120, 255):
            self.assertEqual(amend(T, B, [byte] * 65536), [-9, 1, 0])
            self.assertEqual(amend(T, B, head + [byte] * (65536 - len(head))), [-9, 1, 1])
        lines = text("- A\n") * ((65536 - len(head)) // 4)
        self.assertEqual(amend(T, B, head + lines), [-9, 5, 2])

    def test_how_long_a_book_and_a_locker_may_be(self):
        good = text("amend X\n")
        longest = text(book_of_size(65536))
        self.assertIsNone(differ_at(amend(WIDE, longest, good), [65536] + longest))
        self.assertEqual(amend(WIDE, text(book_of_size(65537)), good), [-2])
        self.assertEqual(amend(T + [10] * (65536 - len(T)), B, good), [-6])
        self.assertEqual(amend(T + [10] * (65537 - len(T)), B, good), [-2])


if __name__ == "__main__":
    unittest.main()
