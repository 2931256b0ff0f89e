"""What amend makes: the text of the book with all of an amendment done, behind its length."""

import itertools
import unittest

from flagbooks.desk import amend, find, judge, means, row, says
from tests.helper import amend_words, book_words, locker_words, text
from tests.helper import book_of_size, differ_at, lines_of_size, many_rows, many_signs

T = text(locker_words([("A", 2), ("B", 1), ("CC", 8)], [(1, 1)], 1))
LINES = ["A go", "CC stop", "A.B go alongside", "A.CC wait", "CC.A.A so"]
WIDE = text(locker_words(many_signs(48, 2)))


class Made(unittest.TestCase):
    def made(self, before, changes, after, t=T, name="X"):
        """The book of these lines, so amended, has those lines."""
        told = text(book_words(after, name))
        answer = amend(t, text(book_words(before, name)), text(amend_words(changes, name)))
        self.assertEqual(answer, [len(told)] + told, changes)
        if len(told) <= 65536:
            self.assertEqual(judge(t, answer[1:]), [len(after)])

    def test_a_new_entry_ahead_between_and_behind(self):
        self.made(["B stop"], ["+ A go"], ["A go", "B stop"])
        self.made(["B stop"], ["+ CC go"], ["B stop", "CC go"])
        self.made(["A go", "CC stop"], ["+ B wait"], ["A go", "B wait", "CC stop"])
        self.made(LINES, ["+ B x"], ["A go", "B x"] + LINES[1:])
        self.made(LINES, ["+ B.A x"], LINES[:4] + ["B.A x"] + LINES[4:])
        self.made(LINES, ["+ CC.CC.CC x"], LINES + ["CC.CC.CC x"])

    def test_an_entry_dropped_first_between_and_last(self):
        for place, line in enumerate(LINES):
            self.made(LINES, ["- " + line.split()[0]], LINES[:place] + LINES[place + 1:])

    def test_an_entry_that_means_something_else_first_between_and_last(self):
        for place, line in enumerate(LINES):
            told = line.split()[0]
            self.made(LINES, [f"= {told} another thing"], LINES[:place] + [f"{told} another thing"] + LINES[place + 1:])

    def test_all_three_at_once(self):
        self.made(LINES, ["- A", "+ B x y", "= CC halt", "+ A.A z", "- A.CC", "+ CC.A.CC u"],
                  ["B x y", "CC halt", "A.A z", "A.B go alongside", "CC.A.A so", "CC.A.CC u"])
        self.made(LINES, ["= A 1", "- CC", "= A.B 2", "= A.CC 3", "+ A.CC.A 4", "- CC.A.A", "+ CC.CC.CC.CC 5"],
                  ["A 1", "A.B 2", "A.CC 3", "A.CC.A 4", "CC.CC.CC.CC 5"])

    def test_a_book_without_entries(self):
        self.made([], [], [])
        self.made([], ["+ A go"], ["A go"])
        self.made([], ["+ A go", "+ CC.A stop", "+ A.B.CC x"], ["A go", "CC.A stop", "A.B.CC x"])

    def test_a_book_of_one_entry(self):
        self.made(["B go"], [], ["B go"])
        self.made(["B go"], ["- B"], [])
        self.made(["B go"], ["= B stop"], ["B stop"])
        self.made(["B go"], ["+ A x", "- B", "+ CC y"], ["A x", "CC y"])
        self.made(["B go"], ["+ A x", "= B y", "+ CC z"], ["A x", "B y", "CC z"])

    def test_no_lines_behind_line_0(self):
        for lines in ([], LINES[:1], LINES):
            self.made(lines, [], lines)

    def test_every_entry_dropped(self):
        self.made(LINES, ["- " + line.split()[0] for line in LINES], [])
        self.made(LINES, ["- A", "+ B new", "- CC", "- A.B", "- A.CC", "- CC.A.A"], ["B new"])

    def test_every_entry_means_something_else(self):
        self.made(LINES, ["= " + line.split()[0] + " x" for line in LINES], [line.split()[0] + " x" for line in LINES])

    def test_every_choice_of_rows_dropped(self):
        rows = [line.split()[0] for line in LINES]
        for count in range(len(rows) + 1):
            for gone in itertools.combinations(rows, count):
                self.made(LINES, [f"- {told}" for told in gone], [x for x in LINES if x.split()[0] not in gone])
                self.made([x for x in LINES if x.split()[0] not in gone],
                          ["+ " + line for line in LINES if line.split()[0] in gone], LINES)

    def test_the_rows_order_is_the_lockers_not_the_names(self):
        t = text(locker_words([("Z", 2), ("A", 2), ("M", 2)]))
        self.made(["Z z", "M m"], ["+ A a", "+ Z.A x", "+ A.Z y"], ["Z z", "A a", "M m", "Z.A x", "A.Z y"], t)

    def test_longer_rows_come_behind_shorter_ones(self):
        rows = [".".join(["CC"] * length) for length in range(1, 9)]
        for place, told in enumerate(rows):
            lines = [f"{other} x" for other in rows]
            self.made(lines[:place] + lines[place + 1:], [f"+ {told} x"], lines)
            self.made(lines, [f"- {told}"], lines[:place] + lines[place + 1:])
            self.made(lines, [f"= {told} y"], lines[:place] + [f"{told} y"] + lines[place + 1:])

    def test_names_of_books_and_lockers(self):
        t = text(locker_words([("A", 1), ("LONGNAME", 1)], name="LOCKER88"))
        for name in ("B", "9", "ABCDEFGH", "01234567"):
            b = text(book_words(["A x"], name, "LOCKER88"))
            told = text(f"book {name}\nfor LOCKER88\nA x\nLONGNAME y\n")
            self.assertEqual(amend(t, b, text(f"amend {name}\n+ LONGNAME y\n")), [len(told)] + told)

    def test_meanings_of_1_and_64_bytes(self):
        for length in (1, 2, 63, 64):
            lines = ["A " + "m" * length, "B " + "n" * length]
            self.made(["A go"], ["= " + lines[0], "+ " + lines[1]], lines)

    def test_every_byte_that_a_meaning_may_have(self):
        for byte in range(33, 127):
            head, letter = text("book X\nfor L\nA go\n"), [byte]
            told = text("book X\nfor L\nA ") + letter + text("\nB a ") + letter + text("\n")
            c = text("amend X\n= A ") + letter + text("\n+ B a ") + letter + text("\n")
            self.assertEqual(amend(T, head, c), [len(told)] + told)

    def test_meanings_like_lines_of_a_text(self):
        for meaning in ("+ A x", "- A", "= A x", "amend X", "A", "A.B", ".", "-", "+", "=", "book X", "for L"):
            self.made(["A go"], [f"= A {meaning}", f"+ B {meaning}"], [f"A {meaning}", f"B {meaning}"])
            self.made([f"A {meaning}"], ["- A"], [])
            self.made([f"A {meaning}"], ["+ B x"], [f"A {meaning}", "B x"])

    def test_a_meaning_that_another_entry_has(self):
        self.made(["A go", "B stop"], ["= A stop", "= B go"], ["A stop", "B go"])
        self.made(["A go"], ["+ B go"], ["A go", "B go"])

    def test_a_meaning_that_differs_a_little(self):
        for meaning in ("g", "go!", "go on", "Go", "gO", "og", "go.", ".go"):
            self.made(["A go"], [f"= A {meaning}"], [f"A {meaning}"])

    def test_signs_named_like_marks_of_other_texts(self):
        t = text(locker_words([("0", 2), ("AMEND", 1), ("X", 1)]))
        self.made(["0 x"], ["- 0", "+ AMEND x", "+ X y", "+ 0.0 z"], ["AMEND x", "X y", "0.0 z"], t)


class Large(unittest.TestCase):
    def made(self, b, c, told):
        self.assertIsNone(differ_at(amend(WIDE, text(b), text(c)), [len(told)] + text(told)))

    def test_all_entries_there_can_be(self):
        rows = many_rows(2048)
        lines = [f"{told} x" for told in rows]
        self.made(book_words([]), amend_words(f"+ {line}" for line in lines), book_words(lines))
        self.made(book_words(lines[:-1]), amend_words([f"+ {lines[-1]}"]), book_words(lines))
        self.made(book_words(lines[1:]), amend_words([f"+ {lines[0]}"]), book_words(lines))
        self.made(book_words(lines), amend_words(f"- {told}" for told in rows), book_words([]))
        self.made(book_words(lines), amend_words(f"= {told} y" for told in rows),
                  book_words(f"{told} y" for told in rows))
        self.made(book_words(lines), amend_words([]), book_words(lines))
        self.made(book_words(lines[::2]), amend_words(f"+ {line}" for line in lines[1::2]), book_words(lines))

    def test_room_made_by_a_line_before_or_behind(self):
        rows = many_rows(2049)
        lines = [f"{told} x" for told in rows]
        self.made(book_words(lines[:2048]), amend_words([f"- {rows[0]}", f"+ {lines[2048]}"]), book_words(lines[1:]))
        self.made(book_words(lines[1:]), amend_words([f"+ {lines[0]}", f"- {rows[2048]}"]), book_words(lines[:2048]))
        self.made(book_words(lines[:1000] + lines[1001:]), amend_words([f"+ {lines[1000]}", f"- {rows[1001]}"]),
                  book_words(lines[:1001] + lines[1002:]))

    def test_more_bytes_than_a_text_may_have(self):
        b = book_of_size(65536)
        spare = 65536 - len("amend X\n")
        starts = ["+ " + told for told in many_rows(1900)[1000:]]
        lines = lines_of_size(starts, spare)
        c = amend_words(lines)
        self.assertEqual((len(b), len(c)), (65536, 65536))
        told = b + "".join(line[2:] + "\n" for line in lines)
        self.assertGreater(len(told), 120000)
        self.made(b, c, told)
        self.assertEqual(judge(WIDE, text(told)), [-2])

    def test_the_longest_that_can_be_read_again_and_one_byte_more(self):
        b = book_of_size(65536 - len("S47.S47 m\n"))
        for meaning, answer in (("m", [1001]), ("mm", [-2])):
            made = amend(WIDE, text(b), text(amend_words([f"+ S47.S47 {meaning}"])))
            self.assertIsNone(differ_at(made, [65535 + len(meaning)] + text(f"{b}S47.S47 {meaning}\n")))
            self.assertEqual(judge(WIDE, made[1:]), answer)

    def test_a_book_of_the_longest_text_made_shorter(self):
        b = book_of_size(65536)
        lines = b.splitlines()[2:]
        self.made(b, amend_words(["- S00", "= S19.S39 n"]), book_words(lines[1:-1] + ["S19.S39 n"]))


class WhatTheBookSays(unittest.TestCase):
    def test_the_other_calls_on_the_book_made(self):
        b = text(book_words(LINES))
        made = amend(T, b, text(amend_words(["- A", "+ B hold on", "= A.B stop", "+ CC.CC go"])))[1:]
        self.assertEqual(judge(T, made), [6])
        self.assertEqual(find(T, made, [0]), [-5])
        self.assertEqual(find(T, made, [1]), [0])
        self.assertEqual(says(0, T, made), [7] + text("hold on"))
        self.assertEqual(means(T, made, text("stop")), [1])
        self.assertEqual(row(4, T, made), [2, 2, 2])
        self.assertEqual(means(T, made, text("go alongside")), [-5])

    def test_a_row_dropped_and_put_back(self):
        b = text(book_words(LINES))
        without = amend(T, b, text(amend_words(["- A.B"])))[1:]
        again = amend(T, without, text(amend_words(["+ A.B go alongside"])))[1:]
        self.assertEqual(again, b)


if __name__ == "__main__":
    unittest.main()
