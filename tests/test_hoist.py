"""The hoist told for a row, seen through doubts, and all hoists of small lockers tried out."""

import itertools
import random
import unittest

from flagbooks.desk import doubts, judge
from flagbooks.hoists import can_show, hoist_told
from flagbooks.lockers import read_locker
from tests.helper import book_words, hoists_that_show, locker_words, second_hoist, text

NAMES = "ABCDEFGH"
# Each colour is a class of its own, but 14 and 15 are one.
LIGHT = 0xeedcba9876543210


def locker_with_doubles(signs, sames):
    """A locker with the signs A, B and on and the sames, and for each of these a sign that looks like it in LIGHT.

    The doubles are called D0 and on, in the order of the kinds that they look like; there are 8 copies of each.
    """
    lines = ["locker L"]
    count = len(signs) + len(sames)
    lines += [f"sign {name} {copies} square e{place:015x}" for place, (name, copies) in enumerate(zip(NAMES, signs))]
    lines += [f"sign D{place} 8 square f{place:015x}" for place in range(count)]
    lines += [f"same {k} {copies} square e{len(signs) + place:015x}" for place, (k, copies) in enumerate(sames)]
    return "".join(line + "\n" for line in lines)


def hoist_seen(signs, sames, names):
    """The hoist told for a row, a letter for a sign and K for a same: the row's book has, for each hoist that means
    the row (with any number of copies), an entry whose flags look like that hoist's in LIGHT."""
    row = [NAMES.index(name) for name in names]
    numbers = {len(signs) + place: k for place, (k, copies) in enumerate(sames)}
    hoists = sorted(hoists_that_show(row, [8] * (len(signs) + len(sames)), len(signs), numbers))
    lines = [".".join(names) + " x"] + [".".join(f"D{kind}" for kind in hoist) + " x" for hoist in hoists]
    t, b = text(locker_with_doubles(signs, sames)), text(book_words(lines))
    answer = doubts(LIGHT, 0, t, b)
    if answer[:2] != [1, 0] or judge(t, b) != [len(lines)]:
        raise AssertionError(f"{answer} of {names}")
    return "".join(str(numbers.get(kind, NAMES[kind])) for kind in hoists[answer[2] - 1])


class Told(unittest.TestCase):
    def told(self, signs, sames, names, hoist):
        self.assertEqual(hoist_seen(signs, sames, names), hoist, (signs, sames, names))

    def test_no_same_where_the_copies_do(self):
        self.told([1], [(1, 8)], "A", "A")
        self.told([2], [(1, 8)], "AA", "AA")
        self.told([3], [(1, 8), (2, 8)], "AAA", "AAA")
        self.told([2, 2], [(1, 8), (2, 8), (3, 8), (4, 8)], "ABAB", "ABAB")
        self.told([8], [(1, 8)], "AAAAAAAA", "AAAAAAAA")

    def test_a_same_where_the_copies_run_out(self):
        self.told([1], [(1, 1)], "AA", "A1")
        self.told([1], [(1, 8)], "AA", "A1")
        self.told([1], [(1, 2)], "AAA", "A11")
        self.told([1, 1], [(1, 1)], "ABA", "AB1")
        self.told([1, 1], [(2, 1)], "ABB", "AB2")
        self.told([1, 2], [(1, 1), (2, 1)], "AABB", "A1BB")

    def test_signs_stand_above_sames(self):
        """Of the hoists with the fewest sames the first has the sign as long as there are copies of it."""
        self.told([2], [(1, 1)], "AAA", "AA1")
        self.told([2], [(1, 2)], "AAAA", "AA11")
        self.told([3], [(1, 4)], "AAAAA", "AAA11")
        self.told([2, 1], [(1, 2)], "ABAA", "ABA1")
        self.told([2, 1], [(1, 2), (3, 2)], "AABAA", "AAB11")
        self.told([7], [(1, 8)], "AAAAAAAA", "AAAAAAA1")
        self.told([1], [(1, 8)], "AAAAAAAA", "A1111111")
        self.told([4], [(1, 4)], "AAAAAAAA", "AAAA1111")

    def test_each_sign_by_its_own_copies(self):
        self.told([1, 1], [(1, 1), (2, 1)], "ABAB", "AB12")
        self.told([1, 1], [(1, 1), (2, 1)], "ABBA", "AB21")
        self.told([2, 1], [(1, 1), (2, 1)], "ABAB", "ABA2")
        self.told([1, 2], [(1, 1), (2, 1)], "ABAB", "AB1B")
        self.told([1, 1, 1], [(1, 1), (2, 1), (3, 1)], "ABCCBA", "ABC321")

    def test_the_lesser_same_comes_first(self):
        self.told([1], [(1, 2), (2, 1)], "AAA", "A11")
        self.told([1], [(1, 1), (2, 1)], "AAA", "A12")
        self.told([1], [(1, 2), (2, 1)], "AAAA", "A112")
        self.told([1], [(1, 1), (2, 2), (3, 1)], "AAAA", "A122")
        self.told([2], [(1, 1), (2, 1)], "AAAA", "AA12")
        self.told([2], [(2, 2), (3, 2)], "AAAAA", "AA223")
        self.told([3], [(2, 1), (3, 1)], "AAAA", "AAA2")
        self.told([1], [(1, 8), (2, 8), (3, 8), (4, 8)], "AAAAA", "A1111")
        self.told([1], [(1, 1), (2, 1), (3, 1), (4, 1)], "AAAAA", "A1234")
        self.told([2], [(1, 1), (2, 1), (3, 1), (4, 1)], "AAAAAA", "AA1234")

    def test_a_same_for_what_a_same_above_means(self):
        self.told([1, 1], [(1, 1), (3, 1)], "ABAA", "AB13")
        self.told([1, 1], [(2, 1), (3, 1)], "ABBB", "AB23")
        self.told([1, 1], [(2, 2), (3, 1), (4, 1)], "BAAAAA", "BA2234")
        self.told([1, 2], [(1, 1), (4, 1)], "ABBAA", "ABB14")

    def test_a_same_only_where_its_sign_stands(self):
        self.told([1, 1], [(2, 2)], "BAAA", "BA22")
        self.told([1, 1], [(1, 2)], "ABAA", "AB11")
        self.told([1, 1, 1], [(1, 1), (2, 1), (3, 1)], "BACA", "BAC2")
        self.told([1, 1, 1, 1], [(1, 1), (2, 1), (3, 1), (4, 1)], "DCBAA", "DCBA4")
        self.told([1, 1, 1, 1], [(1, 1), (2, 1), (3, 1), (4, 1)], "DCBAD", "DCBA1")

    def test_rows_of_8_signs(self):
        self.told([1, 1, 1, 1], [(1, 1), (2, 1), (3, 1), (4, 1)], "ABCDABCD", "ABCD1234")
        self.told([1, 1, 1, 1], [(1, 1), (2, 1), (3, 1), (4, 1)], "ABCDDCBA", "ABCD4321")
        self.told([2, 1], [(1, 2), (2, 3)], "ABABABBA", "ABA21221")
        self.told([4, 4], [(1, 8), (2, 8), (3, 8)], "ABABABAB", "ABABABAB")
        self.told([3, 4], [(1, 8), (2, 8), (3, 8)], "ABABABAB", "ABABAB1B")
        self.told([1, 1], [(1, 1), (2, 3), (3, 8)], "ABABABAB", "AB123232")

    def test_answers_mean_nothing(self):
        """No flag that looks like the answer's is flown, though it has copies."""
        t = text("locker L\nsign A 1 square e000000000000000\nsign B 8 square f000000000000000\n"
                 "sign C 8 square f000000000000001\nsign D 8 square f000000000000002\n"
                 "same 1 1 square e000000000000001\nanswer 8 square e000000000000002\n")
        b = text(book_words(["A.A x", "B.B x", "B.C x", "B.D x"]))
        self.assertEqual(doubts(LIGHT, 0, t, b), [1, 0, 2])


class EveryHoist(unittest.TestCase):
    def check(self, signs, sames, rows, answer=0):
        locker = read_locker(text(locker_words(zip(NAMES, signs), sames, answer)))
        copies = signs + [count for k, count in sames] + [answer] * (answer > 0)
        numbers = {len(signs) + place: k for place, (k, count) in enumerate(sames)}
        with_sames = 0
        for row in rows:
            hoist = second_hoist(row, copies, len(signs), numbers)
            self.assertEqual(hoist_told(locker, list(row)), hoist or [], (signs, sames, row))
            self.assertEqual(can_show(locker, list(row)), hoist is not None)
            with_sames = with_sames + any(kind >= len(signs) for kind in hoist or [])
        return with_sames

    def test_every_row_of_small_lockers(self):
        for signs, sames, most in (([1, 2], [(1, 1)], 7), ([1, 1], [(1, 1), (2, 1), (3, 1), (4, 1)], 6),
                                   ([2, 1], [(1, 2), (3, 1), (4, 1)], 6), ([1, 1, 2], [(2, 2), (3, 1)], 5),
                                   ([1], [(1, 1), (2, 2), (4, 3)], 8), ([3], [(2, 1), (3, 1), (4, 8)], 8)):
            self.check(signs, sames, [row for length in range(1, most + 1)
                                      for row in itertools.product(range(len(signs)), repeat=length)])

    def test_rows_at_random(self):
        chance = random.Random(53)
        with_sames = 0
        for turn in range(2500):
            signs = [chance.choice((1, 1, 1, 2, 3, 8)) for place in range(chance.randint(1, 4))]
            sames = [(k, chance.choice((1, 1, 2, 3, 8))) for k in (1, 2, 3, 4) if chance.random() < 0.6]
            row = [chance.randrange(len(signs)) for place in range(chance.randint(1, 8))]
            with_sames = with_sames + self.check(signs, sames, [row], chance.randint(0, 2))
        self.assertGreater(with_sames, 500)


if __name__ == "__main__":
    unittest.main()
