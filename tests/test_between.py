"""What between tells: the text of the amendment that makes the one book of the other, behind its length."""

import itertools
import unittest

from flagbooks.desk import amend, between, judge
from tests.helper import amend_words, book_words, locker_words, text
from tests.helper import book_of_size, differ_at, lines_of_size, many_rows, many_signs

T = text(locker_words([("A", 2), ("B", 1), ("CC", 8)], [(1, 1)], 1))
LINES = ["A go", "CC stop", "A.B go alongside", "A.CC wait", "CC.A.A so"]
B = text(book_words(LINES))
WIDE = text(locker_words(many_signs(48, 2)))


class Told(unittest.TestCase):
    def told(self, before, after, changes, t=T, name="X"):
        """Between the books of these lines stand those changes, and they make the one of the other."""
        b, c = text(book_words(before, name)), text(book_words(after, name))
        words = text(amend_words(changes, name))
        self.assertEqual(between(t, b, c), [len(words)] + words, (before, after))
        self.assertEqual(amend(t, b, words), [len(c)] + c, (before, after))

    def test_two_books_alike(self):
        for lines in ([], LINES[:1], LINES):
            self.told(lines, lines, [])

    def test_a_new_entry_ahead_between_and_behind(self):
        self.told([], ["A go"], ["+ A go"])
        self.told(["B stop"], ["A go", "B stop"], ["+ A go"])
        self.told(["B stop"], ["B stop", "CC go"], ["+ CC go"])
        self.told(["A go", "CC stop"], ["A go", "B wait", "CC stop"], ["+ B wait"])
        for place, line in enumerate(LINES):
            self.told(LINES[:place] + LINES[place + 1:], LINES, ["+ " + line])

    def test_an_entry_dropped_first_between_and_last(self):
        self.told(["A go"], [], ["- A"])
        for place, line in enumerate(LINES):
            self.told(LINES, LINES[:place] + LINES[place + 1:], ["- " + line.split()[0]])

    def test_an_entry_that_means_something_else_first_between_and_last(self):
        self.told(["A go"], ["A stop"], ["= A stop"])
        for place, line in enumerate(LINES):
            other = line.split()[0] + " another thing"
            self.told(LINES, LINES[:place] + [other] + LINES[place + 1:], ["= " + other])

    def test_all_three_at_once(self):
        self.told(LINES, ["B x y", "CC halt", "A.A z", "A.B go alongside", "CC.A.A so", "CC.A.CC u"],
                  ["- A", "+ B x y", "= CC halt", "+ A.A z", "- A.CC", "+ CC.A.CC u"])
        self.told(LINES, ["A 1", "A.B 2", "A.CC 3", "A.CC.A 4", "CC.CC.CC.CC 5"],
                  ["= A 1", "- CC", "= A.B 2", "= A.CC 3", "+ A.CC.A 4", "- CC.A.A", "+ CC.CC.CC.CC 5"])

    def test_lines_of_one_book_wholly_ahead_of_those_of_the_other(self):
        self.told(["A go", "B x"], ["A.B x", "CC.A y"], ["- A", "- B", "+ A.B x", "+ CC.A y"])
        self.told(["A.B x", "CC.A y"], ["A go", "B x"], ["+ A go", "+ B x", "- A.B", "- CC.A"])

    def test_lines_of_the_books_by_turns(self):
        self.told(["A 1", "CC 3", "A.B 5"], ["B 2", "A.A 4", "A.CC 6"],
                  ["- A", "+ B 2", "- CC", "+ A.A 4", "- A.B", "+ A.CC 6"])
        self.told(["B 2", "A.A 4", "A.CC 6"], ["A 1", "CC 3", "A.B 5"],
                  ["+ A 1", "- B", "+ CC 3", "- A.A", "+ A.B 5", "- A.CC"])

    def test_every_entry_new_dropped_or_with_another_meaning(self):
        rows = [line.split()[0] for line in LINES]
        self.told([], LINES, ["+ " + line for line in LINES])
        self.told(LINES, [], ["- " + told for told in rows])
        self.told(LINES, [told + " x" for told in rows], ["= " + told + " x" for told in rows])

    def test_every_choice_of_rows(self):
        rows = [line.split()[0] for line in LINES]
        for count in range(len(rows) + 1):
            for gone in itertools.combinations(rows, count):
                left = [line for line in LINES if line.split()[0] not in gone]
                self.told(LINES, left, ["- " + told for told in gone])
                self.told(left, LINES, ["+ " + line for line in LINES if line not in left])
                self.told(LINES, [told + " y" if told in gone else line for told, line in zip(rows, LINES)],
                          ["= " + told + " y" for told in gone])

    def test_the_rows_order_is_the_lockers_not_the_names(self):
        t = text(locker_words([("Z", 2), ("A", 2), ("M", 2)]))
        self.told(["M m"], ["Z z", "A a", "Z.A x", "A.Z y"], ["+ Z z", "+ A a", "- M", "+ Z.A x", "+ A.Z y"], t)
        self.told(["Z z", "A a", "A.Z y"], ["A b", "Z.M x"], ["- Z", "= A b", "+ Z.M x", "- A.Z"], t)

    def test_longer_rows_come_behind_shorter_ones(self):
        rows = [".".join(["CC"] * length) for length in range(1, 9)]
        self.told([told + " x" for told in rows[::2]], [told + " x" for told in rows[1::2]],
                  [("+ " + told + " x" if place % 2 else "- " + told) for place, told in enumerate(rows)])

    def test_a_meaning_that_differs_a_little(self):
        for meaning in ("g", "go!", "go on", "Go", "gO", "og", "go.", ".go"):
            self.told(["A go"], [f"A {meaning}"], [f"= A {meaning}"])
            self.told([f"A {meaning}"], ["A go"], ["= A go"])

    def test_a_meaning_that_goes_to_another_row(self):
        self.told(["A go"], ["B go"], ["- A", "+ B go"])
        self.told(["A go", "B stop"], ["A stop", "B go"], ["= A stop", "= B go"])
        self.told(["A go"], ["A go", "B go"], ["+ B go"])

    def test_meanings_of_1_and_64_bytes(self):
        for length in (1, 2, 63, 64):
            self.told(["A go"], ["A " + "m" * length, "B " + "n" * length],
                      ["= A " + "m" * length, "+ B " + "n" * length])

    def test_every_byte_that_a_meaning_may_have(self):
        for byte in range(33, 127):
            self.told(["A gone"], [f"A {chr(byte)}", f"B a {chr(byte)}"], [f"= A {chr(byte)}", f"+ B a {chr(byte)}"])

    def test_meanings_like_lines_of_a_text(self):
        for meaning in ("+ A x", "- A", "= A x", "amend X", "A", "A.B", ".", "-", "+", "=", "book X", "for L"):
            self.told(["A go"], [f"A {meaning}", f"B {meaning}"], [f"= A {meaning}", f"+ B {meaning}"])
            self.told([f"A {meaning}"], [f"B {meaning}"], ["- A", f"+ B {meaning}"])

    def test_rows_that_only_sames_can_show(self):
        self.told(["A.A.A x"], ["B.B x"], ["+ B.B x", "- A.A.A"])

    def test_names_of_books_and_lockers(self):
        t = text(locker_words([("A", 1), ("LONGNAME", 1)], name="LOCKER88"))
        for name in ("B", "9", "ABCDEFGH", "01234567"):
            b = text(book_words(["A x"], name, "LOCKER88"))
            c = text(book_words(["LONGNAME y"], name, "LOCKER88"))
            words = text(f"amend {name}\n- A\n+ LONGNAME y\n")
            self.assertEqual(between(t, b, c), [len(words)] + words)
            self.assertEqual(between(t, b, b), [7 + len(name)] + text(f"amend {name}\n"))


class Large(unittest.TestCase):
    def told(self, b, c, words):
        self.assertIsNone(differ_at(between(WIDE, text(b), text(c)), [len(words)] + text(words)))

    def test_all_entries_there_can_be(self):
        rows = many_rows(2048)
        lines = [f"{told} x" for told in rows]
        full, empty = book_words(lines), book_words([])
        self.told(empty, full, amend_words(f"+ {line}" for line in lines))
        self.told(full, empty, amend_words(f"- {told}" for told in rows))
        self.told(full, full, amend_words([]))
        self.told(full, book_words(f"{told} y" for told in rows), amend_words(f"= {told} y" for told in rows))
        self.told(book_words(lines[::2]), book_words(lines[1::2]),
                  amend_words((f"+ {line}" if place % 2 else f"- {rows[place]}") for place, line in enumerate(lines)))

    def test_two_full_books_with_other_rows(self):
        rows = many_rows(48 + 48 * 48)
        lines = [f"{told} x" for told in rows]
        b, c = book_words(lines[:2048]), book_words(lines[-2048:])
        words = amend_words([f"- {told}" for told in rows[:-2048]] + [f"+ {line}" for line in lines[2048:]])
        self.told(b, c, words)
        self.assertIsNone(differ_at(amend(WIDE, text(b), text(words)), [len(c)] + text(c)))

    def test_more_bytes_than_a_text_may_have(self):
        c = book_of_size(65536)
        words = amend_words("+ " + line for line in c.splitlines()[2:])
        self.assertEqual(len(words), 67531)
        self.told(book_words([]), c, words)
        self.assertEqual(amend(WIDE, text(book_words([])), text(words)), [-2])

    def test_far_more_bytes_than_a_text_may_have(self):
        rows = many_rows(2300)
        b = book_words(f"{told} x" for told in rows[1100:])
        lines = lines_of_size(rows[:1100], 65536 - len(book_words([])))
        self.told(b, book_words(lines), amend_words([f"+ {line}" for line in lines]
                                                    + [f"- {told}" for told in rows[1100:]]))
        self.assertGreater(between(WIDE, text(b), text(book_words(lines)))[0], 75000)

    def test_the_longest_that_can_be_done_and_one_byte_more(self):
        for more, answer in ((0, 63541), (1, -2)):
            c = book_of_size(63541 + more)
            made = between(WIDE, text(book_words([])), text(c))
            self.assertEqual((made[0], len(made)), (65536 + more, 65537 + more))
            done = amend(WIDE, text(book_words([])), made[1:])
            self.assertEqual(done[0], answer)
            self.assertIsNone(differ_at(done[1:], text(c) if more == 0 else []))

    def test_books_of_the_longest_text(self):
        b = book_of_size(65536)
        lines = b.splitlines()[2:]
        other = "S19.S39 " + "n" * len(lines[-1].split()[1])
        c = book_words(lines[:-1] + [other])
        self.assertEqual((len(b), len(c)), (65536, 65536))
        self.told(b, c, amend_words(["= " + other]))
        self.told(b, b, amend_words([]))


class Refused(unittest.TestCase):
    def test_other_names(self):
        for name in ("Y", "XX", "X0", "0", "L", "ABCDEFGH"):
            for lines in ([], LINES[:1], LINES):
                self.assertEqual(between(T, B, text(book_words(lines, name))), [-3])
                self.assertEqual(between(T, text(book_words(lines, name)), B), [-3])

    def test_c_is_no_books_text(self):
        """The number alone stands there, whatever the fault's kind and line are."""
        for words in ("", "book X", "book X\n", "book X\nfor L", "book X\nfor M\n", "book X\nfor L\nA go", "amend X\n",
                      book_words(["D x"]), book_words(["B.B.B x"]), book_words(["B x", "A x"]), book_words(["A  x"]),
                      book_words(["A x", "A x"])):
            self.assertEqual(between(T, B, text(words)), [-9], words)
            self.assertEqual(between(T, text(words), B), [-9], words)
            self.assertEqual(between(T, text(words), text(words)), [-9], words)
        rows = many_rows(2049)
        full, over = (text(book_words(f"{told} x" for told in rows[:count])) for count in (2048, 2049))
        self.assertEqual(between(WIDE, full, over), [-9])
        self.assertEqual(between(WIDE, over, full), [-9])
        self.assertEqual(between(WIDE, full, full), [8] + text("amend X\n"))

    def test_a_book_for_another_locker(self):
        self.assertEqual(between(T, B, text(book_words(["A go"], "X", "M"))), [-9])
        self.assertEqual(between(T, text(book_words(["A go"], "X", "M")), B), [-9])

    def test_an_amendment_is_no_book(self):
        self.assertEqual(between(T, B, between(T, B, B)[1:]), [-9])

    def test_the_order(self):
        """Each line's refusal comes before those below it."""
        long, no_book, other = [0] * 65537, B[:-1], text(book_words(LINES, "Y"))
        bad = T[:-1]
        for t, b, c in ((T, B, long), (T, long, B), (T + [10] * 65537, B, B), (bad, B, long), (bad, long, B),
                        (T, no_book, long), (T, long, no_book), (long, no_book, no_book), (long, long, long),
                        ([], [], long), (T, other, long), (T, long, other)):
            self.assertEqual(between(t, b, c), [-2])
        for b, c in ((B, B), (no_book, B), (B, no_book), (other, B), (no_book, no_book), ([], [])):
            self.assertEqual(between(bad, b, c), [-6])
            self.assertEqual(between([], b, c), [-6])
        for b, c in ((no_book, B), (B, no_book), (other, no_book), (no_book, other), (no_book, no_book), ([], [])):
            self.assertEqual(between(T, b, c), [-9])
        self.assertEqual(between(T, B, other), [-3])

    def test_how_long_a_text_may_be(self):
        empty = text(book_words([]))
        for size, answer in ((65536, 67531), (65537, -2)):
            self.assertEqual(between(WIDE, empty, text(book_of_size(size)))[0], answer)
        for size, answer in ((65536, 8 + 48 * 6 + 952 * 10), (65537, -2)):
            self.assertEqual(between(WIDE, text(book_of_size(size)), empty)[0], answer)
        for size in (65536, 65537, 66000):
            refusal = [-9] if size == 65536 else [-2]
            for words in ([120] * size, [10] * size, B + [10] * (size - len(B))):
                self.assertEqual(between(T, B, words), refusal)
                self.assertEqual(between(T, words, B), refusal)
            self.assertEqual(between(T + [10] * (size - len(T)), B, B), [-6] if size == 65536 else [-2])


class TheOnlyOne(unittest.TestCase):
    """All books of three rows and two meanings, and all amendments that can be written of these."""

    rows = ("A", "B", "A.A")

    def books(self):
        for meanings in itertools.product((None, "x", "y"), repeat=3):
            yield book_words(f"{told} {meaning}" for told, meaning in zip(self.rows, meanings) if meaning)

    def amendments(self):
        for changes in itertools.product((None, "- {}", "+ {} x", "+ {} y", "= {} x", "= {} y"), repeat=3):
            yield amend_words(change.format(told) for told, change in zip(self.rows, changes) if change)

    def test_each_two_books(self):
        for b in self.books():
            makes = {}
            for words in self.amendments():
                answer = amend(T, text(b), text(words))
                if answer[0] >= 0:
                    makes.setdefault(bytes(answer[1:]).decode(), []).append(words)
            self.assertEqual(set(makes), set(self.books()))
            for c in self.books():
                self.assertEqual(len(makes[c]), 1, (b, c))
                self.assertEqual(between(T, text(b), text(c)), [len(makes[c][0])] + text(makes[c][0]), (b, c))

    def test_all_of_these_are_books(self):
        self.assertEqual({judge(T, text(b))[0] for b in self.books()}, {0, 1, 2, 3})


if __name__ == "__main__":
    unittest.main()
