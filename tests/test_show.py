"""Which rows a hoist alone can show, told by judge's kind 4."""

import itertools
import unittest

from flagbooks.desk import judge, row
from tests.helper import book_words, can_be_shown, hoist_meaning, locker_words, text


def locker(signs, sames=(), answer=0):
    """A locker with the signs A, B and on, of these copies."""
    return text(locker_words(zip("ABCDEFGH", signs), sames, answer))


def written(signs):
    return ".".join("ABCDEFGH"[sign] for sign in signs)


class Shown(unittest.TestCase):
    def shown(self, t, names):
        """The row is an entry's, by judge and by row."""
        signs = ["ABCDEFGH".index(name) for name in names]
        b = text(book_words([".".join(names) + " x"]))
        self.assertEqual(judge(t, b), [1], names)
        self.assertEqual(row(0, t, b), [len(signs)] + signs, names)

    def not_shown(self, t, names):
        b = text(book_words([".".join(names) + " x"]))
        self.assertEqual(judge(t, b), [-9, 4, 2], names)
        self.assertEqual(row(0, t, b), [-9], names)

    def test_copies_of_signs_run_out(self):
        for copies in range(1, 9):
            t = locker([copies, 1])
            for length in range(1, 9):
                self.assertEqual(judge(t, text(book_words(["A" + ".A" * (length - 1) + " x"]))),
                                 [1] if length <= copies else [-9, 4, 2])

    def test_each_sign_has_copies_of_its_own(self):
        t = locker([2, 1])
        self.shown(t, "ABA")
        self.not_shown(t, "ABB")
        self.not_shown(t, "BAB")

    def test_copies_of_sames_run_out(self):
        self.shown(locker([1], [(1, 1)]), "AA")
        self.not_shown(locker([1], [(1, 1)]), "AAA")
        self.shown(locker([1], [(1, 2)]), "AAA")
        self.not_shown(locker([1], [(1, 2)]), "AAAA")
        self.shown(locker([1], [(1, 7)]), "AAAAAAAA")
        self.not_shown(locker([1], [(1, 6)]), "AAAAAAAA")
        self.shown(locker([4], [(1, 4)]), "AAAAAAAA")

    def test_copies_of_several_sames_together(self):
        sames = [(1, 1), (2, 1), (3, 1), (4, 1)]
        self.shown(locker([1], sames), "AAAAA")
        self.not_shown(locker([1], sames), "AAAAAA")
        self.shown(locker([4], sames), "AAAAAAAA")
        self.not_shown(locker([3], sames), "AAAAAAAA")

    def test_the_kth_sign_is_the_one_wanted(self):
        for k in range(1, 5):
            t = locker([1, 1, 1, 1], [(k, 1)])
            for other in range(4):
                names = "ABCD" + "ABCD"[other]
                if other == k - 1:
                    self.shown(t, names)
                else:
                    self.not_shown(t, names)

    def test_there_must_be_so_many_above(self):
        t = locker([1, 1, 1], [(2, 8)])
        self.not_shown(t, "AA")
        self.shown(t, "ABB")
        self.not_shown(t, "ABA")
        self.not_shown(locker([1], [(4, 8)]), "AAAA")
        self.not_shown(locker([1, 3], [(4, 8)]), "BBAA")
        self.shown(locker([1, 3], [(4, 8)]), "BBBAA")
        self.shown(locker([1, 2], [(3, 8)]), "BBAAA")

    def test_a_same_that_stands_for_what_another_same_means(self):
        self.shown(locker([1], [(1, 1), (2, 1)]), "AAA")
        self.not_shown(locker([1], [(1, 1), (3, 1)]), "AAA")
        self.shown(locker([1, 1], [(1, 1), (3, 1)]), "ABAA")
        self.shown(locker([1, 1], [(2, 1), (3, 1)]), "ABBB")
        self.not_shown(locker([1, 1], [(2, 1), (4, 1)]), "ABBB")

    def test_sames_of_two_signs(self):
        t = locker([1, 1], [(1, 1), (2, 1)])
        self.shown(t, "ABAB")
        self.shown(t, "ABBA")
        self.not_shown(t, "ABAA")
        self.not_shown(t, "ABABA")

    def test_the_answer_means_nothing(self):
        self.not_shown(locker([1], (), 8), "AA")
        self.not_shown(locker([1], [(1, 1)], 8), "AAA")


class EveryHoist(unittest.TestCase):
    """All hoists of a locker are made; just the rows that they mean must be taken."""

    def rows_shown(self, signs, sames, answer, most):
        copies = list(signs) + [count for k, count in sames] + [answer] * (answer > 0)
        numbers = {len(signs) + place: k for place, (k, count) in enumerate(sames)}
        rows = set()
        for length in range(1, most + 1):
            for hoist in itertools.product(range(len(copies)), repeat=length):
                meant = hoist_meaning(hoist, len(signs), numbers)
                if meant and all(hoist.count(kind) <= copies[kind] for kind in set(hoist)):
                    rows.add(tuple(meant))
        return rows

    def check(self, signs, sames, answer, most):
        t = locker(signs, sames, answer)
        shown = self.rows_shown(signs, sames, answer, most)
        ordered = sorted(shown, key=lambda signs: (len(signs), signs))
        b = text(book_words(written(signs) + " x" for signs in ordered))
        self.assertEqual(judge(t, b), [len(ordered)])
        for length in range(1, most + 1):
            for signs_told in itertools.product(range(len(signs)), repeat=length):
                if signs_told not in shown:
                    b = text(book_words([written(signs_told) + " x"]))
                    self.assertEqual(judge(t, b), [-9, 4, 2], (signs, sames, signs_told))

    def test_small_lockers(self):
        self.check([1, 1, 1], [], 0, 5)
        self.check([1, 2], [(1, 1)], 1, 6)
        self.check([1, 1, 1], [(1, 1), (2, 1)], 0, 5)
        self.check([1, 1, 2], [(2, 2)], 0, 6)
        self.check([1, 1], [(1, 1), (2, 1), (3, 1), (4, 1)], 0, 6)
        self.check([2, 1], [(3, 2), (4, 1)], 0, 8)
        self.check([1, 1], [(1, 2), (3, 1)], 0, 8)
        self.check([1, 1, 1, 1], [(1, 1), (4, 1)], 0, 6)
        self.check([1], [(1, 1), (2, 2), (4, 3)], 0, 8)

    def test_the_second_writing_tries_all(self):
        for signs, sames in (([1, 2], [(1, 1), (3, 1)]), ([1, 1], [(1, 1), (2, 1), (3, 1), (4, 1)])):
            shown = self.rows_shown(signs, sames, 0, 6)
            copies = signs + [count for k, count in sames]
            numbers = {len(signs) + place: k for place, (k, count) in enumerate(sames)}
            for length in range(1, 7):
                for told in itertools.product(range(len(signs)), repeat=length):
                    self.assertEqual(can_be_shown(list(told), copies, len(signs), numbers), told in shown)


if __name__ == "__main__":
    unittest.main()
