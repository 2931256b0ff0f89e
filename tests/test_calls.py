"""The calls as calls: how long a text may be, the order of refusals, what is handed in and given back."""

import contextlib
import io
import unittest

from flagbooks.desk import amend, between, doubts, find, judge, means, row, says
from tests.helper import Untouched, amend_words, book_words, locker_words, text
from tests.helper import book_of_size, differ_at, many_signs

T = text(locker_words([("A", 1), ("B", 1)], [(1, 1)], 1))
B = text(book_words(["A go", "B stop", "B.B wait a while"]))
WIDE = text(locker_words(many_signs(48, 2)))
LAST = 18446744073709551615
# Rows for find: in B, not in B, with a number that's no sign's, of no signs, of more than 8.
ROWS = ([0], [1, 1], [0, 1], [2], [255], [], [0] * 9, [255] * 1000)
# Meanings for means: in B, not in B, and what's no meaning.
MEANINGS = (text("go"), text("wait a while"), text("wait"), [109] * 64, [109] * 65, [], text(" go"), [255] * 1000)
# Amendments for amend: on B, on none, and what's no amendment.
AMENDMENTS = (text(amend_words([])), text(amend_words(["- A", "= B go", "+ A.B x", "- B.B"])),
              text(amend_words(["+ A x"])), text(amend_words(["+ A.A.A x"])), text(amend_words([], "Y")), [],
              [0] * 65536)
# Books for between: alike, with other entries, without any, of another name, and what's no book.
BOOKS = (B, text(book_words(["A stop", "A.B x"])), text(book_words([])), text(book_words([], "Y")), B[:-1], [],
         [0] * 65536)
# Lights and sides for doubts: some pairs, all, none, and what's no side.
SIGHTS = ((0, 0), (0, 2), (LAST, 1), (0xfedcba9876543210, 0), (0xfedcba9876543210, 2), (LAST, 3), (0, LAST))


def all_calls(t, b):
    """What every call answers on these texts."""
    answers = [judge(t, b)]
    for i in (0, 2, LAST):
        answers.extend([row(i, t, b), says(i, t, b)])
    for signs in ROWS:
        answers.append(find(t, b, signs))
    for m in MEANINGS:
        answers.append(means(t, b, m))
    for c in AMENDMENTS + ([0] * 65537,):
        answers.append(amend(t, b, c))
    for c in BOOKS + ([0] * 65537,):
        answers.append(between(t, b, c))
    for light, side in SIGHTS:
        answers.append(doubts(light, side, t, b))
    return answers


class Refusals(unittest.TestCase):
    def refused(self, answer, t, b):
        """judge answers so, the others the number alone or amend with 0 0, whatever else could be refused."""
        self.assertEqual(judge(t, b), answer)
        for i in (0, 1, LAST):
            self.assertEqual(row(i, t, b), answer[:1])
            self.assertEqual(says(i, t, b), answer[:1])
        for signs in ROWS:
            self.assertEqual(find(t, b, signs), answer[:1])
        for m in MEANINGS:
            self.assertEqual(means(t, b, m), answer[:1])
        for c in AMENDMENTS:
            self.assertEqual(amend(t, b, c), [-9, 0, 0] if answer[0] == -9 else answer)
        self.assertEqual(amend(t, b, [0] * 65537), [-2])
        for c in BOOKS:
            self.assertEqual(between(t, b, c), answer[:1])
        self.assertEqual(between(t, b, [0] * 65537), [-2])
        for light, side in SIGHTS:
            self.assertEqual(doubts(light, side, t, b), answer[:1])

    def test_how_long_a_text_may_be(self):
        longest = text(book_of_size(65536))
        self.assertEqual(judge(WIDE, longest), [1000])
        self.assertEqual(row(0, WIDE, longest), [1, 0])
        self.assertEqual(says(0, WIDE, longest), [57] + [109] * 57)
        self.assertEqual(find(WIDE, longest, [19, 39]), [999])
        self.assertEqual(find(WIDE, longest, [19, 40]), [-5])
        self.assertEqual(means(WIDE, longest, [109] * 57), [0])
        self.assertIsNone(differ_at(amend(WIDE, longest, text("amend X\n")), [65536] + longest))
        self.refused([-2], WIDE, text(book_of_size(65537)))
        self.refused([-9, 1, 0], T, [120] * 65536)
        self.refused([-9, 1, 0], T, [10] * 65536)
        self.refused([-9, 1, 5], T, B + [32] * (65536 - len(B)))
        self.refused([-9, 1, 5], T, B + [10] * (65536 - len(B)))
        self.refused([-6], T + [10] * (65536 - len(T)), B)
        for size in (65537, 65538, 66000):
            self.refused([-2], T, [0] * size)
            self.refused([-2], T, B + [10] * (size - len(B)))
            self.refused([-2], [0] * size, B)
            self.refused([-2], T + [10] * (size - len(T)), B)

    def test_too_long_comes_first(self):
        self.refused([-2], [0] * 65537, [0] * 65537)
        self.refused([-2], [0] * 65537, [])
        self.refused([-2], [], [0] * 65537)

    def test_the_locker_comes_before_the_book(self):
        for b in ([], B, text("book X\n"), text("book X\nfor M\n"), [0] * 65536):
            self.refused([-6], [], b)
            self.refused([-6], T[:-1], b)
            self.refused([-6], text("locker L\n"), b)

    def test_the_book_comes_before_the_entry(self):
        self.refused([-9, 1, 4], T, B[:-1])
        self.refused([-9, 5, 5], T, B + text("A x\n"))

    def test_no_such_entry(self):
        self.assertEqual(row(2, T, B), [2, 1, 1])
        self.assertEqual(says(2, T, B), [12] + text("wait a while"))
        for i in (3, 4, 255, 2047, 2048, 2 ** 32, 2 ** 63, LAST):
            self.assertEqual(row(i, T, B), [-4])
            self.assertEqual(says(i, T, B), [-4])
        for i in (0, 1, LAST):
            self.assertEqual(row(i, T, text(book_words([]))), [-4])
            self.assertEqual(says(i, T, text(book_words([]))), [-4])

    def test_a_book_is_for_its_locker(self):
        other = text(locker_words([("B", 1), ("A", 1)], [(1, 1)], 1))
        fewer = text(locker_words([("A", 1)], [(1, 1)], 1))
        self.assertEqual(judge(other, B), [-9, 5, 3])
        self.assertEqual(judge(fewer, B), [-9, 3, 3])
        self.assertEqual(judge(text(locker_words([("A", 1), ("B", 1)])), B), [-9, 4, 4])
        self.assertEqual(judge(text(locker_words([("A", 1), ("B", 1)], name="M")), B), [-9, 2, 1])


class WhatIsHandedIn(unittest.TestCase):
    cases = ((T, B), (T, B[:-1]), (T[:-1], B), ([], []), (T, []), (T, text(book_words(["B x", "A x"]))),
             ([0] * 65537, B))

    def test_is_not_changed(self):
        for t, b in self.cases:
            t_handed, b_handed = Untouched(t), Untouched(b)
            all_calls(t_handed, b_handed)
            for signs in ROWS:
                signs_handed = Untouched(signs)
                find(t_handed, b_handed, signs_handed)
                self.assertEqual(list(signs_handed), signs)
            for m in MEANINGS:
                m_handed = Untouched(m)
                means(t_handed, b_handed, m_handed)
                self.assertEqual(list(m_handed), m)
            for c in AMENDMENTS:
                c_handed = Untouched(c)
                amend(t_handed, b_handed, c_handed)
                self.assertEqual(list(c_handed), c)
            for c in BOOKS:
                c_handed = Untouched(c)
                between(t_handed, b_handed, c_handed)
                self.assertEqual(list(c_handed), c)
            self.assertEqual((list(t_handed), list(b_handed)), (t, b))

    def test_one_list_may_be_both(self):
        self.assertEqual(judge(T, T), [-9, 1, 0])
        self.assertEqual(judge(B, B), [-6])
        self.assertEqual(says(0, T, T), [-9])
        self.assertEqual(find(T, T, T), [-9])
        self.assertEqual(find(T, B, B), [-1])
        self.assertEqual(means(T, B, B), [-1])
        self.assertEqual(amend(T, B, B), [-9, 1, 0])
        self.assertEqual(amend(T, T, T), [-9, 0, 0])
        self.assertEqual(between(T, B, B), [8] + text("amend X\n"))
        self.assertEqual(between(T, T, T), [-9])
        self.assertEqual(between(T, B, T), [-9])
        self.assertEqual(doubts(0, 0, T, T), [-9])


class WhatIsGivenBack(unittest.TestCase):
    def test_lists_of_whole_numbers(self):
        for t, b in WhatIsHandedIn.cases:
            for answer in all_calls(t, b):
                self.assertIs(type(answer), list)
                self.assertEqual({type(number) for number in answer}, {int})

    def test_a_second_call_answers_as_the_first(self):
        first = [all_calls(t, b) for t, b in WhatIsHandedIn.cases]
        again = [all_calls(t, b) for t, b in reversed(WhatIsHandedIn.cases)]
        self.assertEqual(first, again[::-1])

    def test_what_was_given_back_is_the_callers(self):
        for call in (lambda: judge(T, B), lambda: row(2, T, B), lambda: judge(T, []), lambda: row(9, T, B),
                     lambda: says(2, T, B), lambda: says(9, T, B), lambda: find(T, B, [1]), lambda: find(T, B, []),
                     lambda: find(T, B, [2]), lambda: find(T, B, [0, 0]), lambda: means(T, B, text("go")),
                     lambda: means(T, B, []), lambda: means(T, B, text("x")), lambda: amend(T, [], []),
                     lambda: amend(T, B, AMENDMENTS[0]), lambda: amend(T, B, AMENDMENTS[1]), lambda: amend(T, B, []),
                     lambda: between(T, B, B), lambda: between(T, B, BOOKS[1]), lambda: between(T, B, BOOKS[3]),
                     lambda: between(T, B, []), lambda: doubts(0, 0, T, B), lambda: doubts(0, 3, T, B),
                     lambda: doubts(SIGHTS[3][0], 0, T, B)):
            before = call()
            kept = list(before)
            before.extend([7, 7])
            before[0] = 99
            self.assertEqual(call(), kept)

    def test_nothing_is_printed(self):
        printed = io.StringIO()
        with contextlib.redirect_stdout(printed), contextlib.redirect_stderr(printed):
            for t, b in WhatIsHandedIn.cases:
                all_calls(t, b)
        self.assertEqual(printed.getvalue(), "")


if __name__ == "__main__":
    unittest.main()
