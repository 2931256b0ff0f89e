"""Which entries doubts tells: those whose hoists can be taken for one another in a light from a side."""

import itertools
import unittest

from flagbooks.desk import amend, doubts, judge
from tests.helper import amend_words, book_words, locker_words, many_rows, many_signs, text
from tests.helper import book_of_size, differ_at

LAST = 2 ** 64 - 1
# Each colour is a class of its own: that of its number.
AS_IT_IS = 0xfedcba9876543210
WIDE = text(locker_words(many_signs(48, 8)))


def light_with(colour, told):
    """The light AS_IT_IS but for this colour's class."""
    return AS_IT_IS + (told - colour) * 16 ** colour


def locker(looks):
    """A locker whose signs A, B and on have these shapes and looks (`tails 0123..`, or the look alone of a square)
    and 8 copies each."""
    lines = ["locker L"]
    for name, told in zip("ABCDEFGHIJKLMNOPQRSTUVWXYZ", looks):
        lines.append(f"sign {name} 8 {told if ' ' in told else 'square ' + told}")
    return text("".join(line + "\n" for line in lines))


def book(rows):
    """A book with these rows, each a word of one letter a sign, in the order of rows."""
    return text(book_words(".".join(told) + " x" for told in rows.split()))


class Doubts(unittest.TestCase):
    def pairs(self, light, side, t, rows, pairs):
        """These pairs of the book's rows, each written `AB-CD`, can be taken for one another, and no others."""
        told = rows.split()
        numbers = [told.index(word) for pair in pairs.split() for word in pair.split("-")]
        self.assertEqual(judge(t, book(rows)), [len(told)])
        self.assertEqual(doubts(light, side, t, book(rows)), [len(numbers) // 2] + numbers, (hex(light), side, rows))

    def every_side(self, light, t, rows, pairs):
        for side in (0, 1, 2):
            self.pairs(light, side, t, rows, pairs)


class Lights(Doubts):
    # One colour each: from behind they look as from the front.
    t = locker([f"{colour:x}" * 16 for colour in range(16)])

    def test_no_entries_and_one(self):
        for light in (0, AS_IT_IS, LAST):
            self.every_side(light, self.t, "", "")
            self.every_side(light, self.t, "A", "")

    def test_each_colour_a_class(self):
        for light in (AS_IT_IS, 0x0123456789abcdef, 0x1032547698badcfe):
            self.every_side(light, self.t, "A B C O P AA AB BA", "")

    def test_all_colours_one_class(self):
        for light in [int(f"{told:x}" * 16, 16) for told in range(16)]:
            self.every_side(light, self.t, "A B P AA AP PPP", "A-B A-P B-P AA-AP")
        self.every_side(0, self.t, "A B", "A-B")
        self.every_side(LAST, self.t, "A B", "A-B")

    def test_two_colours_in_one_class(self):
        """Each two colours in the class of the one, of the other or in one that no other has."""
        names = "ABCDEFGHIJKLMNOP"
        for one, other in itertools.combinations(range(16), 2):
            pair = f"{names[one]}-{names[other]}"
            self.pairs(light_with(one, other), 0, self.t, " ".join(names), pair)
            self.pairs(light_with(other, one), 2, self.t, " ".join(names), pair)

    def test_several_classes(self):
        # The colours 0, 2 and 15 are in the class 7, 1 and 3 in the class 0, 7 in 1, all others in 9.
        light = 0x7999999919990707
        self.assertEqual([light // 16 ** colour % 16 for colour in (0, 1, 2, 3, 7, 15)], [7, 0, 7, 0, 1, 7])
        self.every_side(light, self.t, "A B C D E F H P", "A-C A-P B-D C-P E-F")

    def test_flag_by_flag(self):
        light = light_with(0, 1)
        self.every_side(light, self.t, "A B C AA AB AC BA BC CA CB CC",
                        "A-B AA-AB AA-BA AB-BA AC-BC CA-CB")

    def test_the_place_of_a_flag(self):
        light = light_with(2, 3)
        self.every_side(light, self.t, "AB AC AD BA CA DA ABC ABD ACB CAB", "AC-AD CA-DA ABC-ABD")

    def test_cells_are_held_against_cells(self):
        t = locker(["1000000000000000", "2000000000000000", "0000100000000000", "0000000000000001", "1" * 16])
        self.every_side(light_with(1, 2), t, "A B C D E", "A-B")
        self.pairs(light_with(1, 0), 0, t, "A B C D E", "A-C A-D A-E C-D C-E D-E")
        self.pairs(light_with(2, 0), 0, t, "A B C D E", "")

    def test_a_class_like_another_colours_number(self):
        """Both looks are in the light: the class of one colour isn't held against the other's number."""
        t = locker(["0" * 16, "1" * 16])
        for light, answer in ((0x00000000000000ff, "A-B"), (0x0000000000000001, ""), (0x0000000000000010, ""),
                              (0x0000000000000011, "A-B")):
            self.every_side(light, t, "A B", answer)

    def test_the_highest_digits(self):
        t = locker(["e" * 16, "f" * 16, "d" * 16])
        for light, answer in ((0x0010000000000000, "A-B"), (0x1000000000000000, "A-C"), (0x0100000000000000, "B-C"),
                              (0xfff0000000000000, "A-B A-C B-C"), (0xff00000000000000, "A-B")):
            self.every_side(light, t, "A B C", answer)


class Shapes(Doubts):
    def test_other_shapes_are_never_taken_for_one_another(self):
        t = locker(["square " + "0" * 16, "tails " + "0" * 16, "long " + "0" * 16, "square " + "1" * 16,
                    "tails " + "2" * 16, "long " + "3" * 16])
        for light in (0, LAST):
            self.every_side(light, t, "A B C D E F", "A-D B-E C-F")
            self.every_side(light, t, "AB AE BA BD DB DE ED", "AB-AE AB-DB AB-DE AE-DB AE-DE BA-BD BA-ED BD-ED DB-DE")
        self.every_side(AS_IT_IS, t, "A B C D E F AB BA", "")

    def test_shapes_from_behind(self):
        t = locker(["square 0001" + "0" * 12, "tails 1000" + "0" * 12, "long 1000" + "0" * 12, "1000" + "0" * 12])
        self.pairs(AS_IT_IS, 2, t, "A B C D", "A-D")

    def test_a_row_of_shapes(self):
        t = locker([f"{shape} {place:016x}" for place in range(2) for shape in ("square", "tails", "long")])
        self.every_side(0, t, "ABC ABF ACB AEC CBA DEF FED",
                        "ABC-ABF ABC-AEC ABC-DEF ABF-AEC ABF-DEF AEC-DEF CBA-FED")


class Lengths(Doubts):
    def test_as_many_flags(self):
        t = locker(["0" * 16, "1" * 16])
        rows = ["A" * length for length in range(1, 9)]
        self.every_side(0, t, " ".join(rows), "")
        both = [told for word in rows for told in (word, word[:-1] + "B")]
        self.every_side(0, t, " ".join(both), " ".join(f"{word}-{word[:-1]}B" for word in rows))
        self.every_side(AS_IT_IS, t, " ".join(both), "")

    def test_rows_of_8(self):
        t = locker(["0" * 16, "1" * 16, "2" * 16])
        self.every_side(light_with(0, 1), t, "AAAAAAAA AAAAAAAB AAAAAAAC BBBBBBBB CAAAAAAA CBBBBBBB",
                        "AAAAAAAA-AAAAAAAB AAAAAAAA-BBBBBBBB AAAAAAAB-BBBBBBBB CAAAAAAA-CBBBBBBB")


class Sides(Doubts):
    # A and B are each other from behind, C and D too; E is as it is from both sides.
    t = locker(["1200000000000000", "0021000000000000", "0000000000000003", "0000000000003000", "0440000000000000"])

    def test_one_flag(self):
        self.pairs(AS_IT_IS, 0, self.t, "A B C D E", "")
        self.pairs(AS_IT_IS, 1, self.t, "A B C D E", "")
        self.pairs(AS_IT_IS, 2, self.t, "A B C D E", "A-B C-D")

    def test_how_a_look_is_from_behind(self):
        """Row by row the other way round: not turned by half, not upside down, not its rows for its columns."""
        t = locker(["0123456789abcdef", "32107654ba98fedc", "fedcba9876543210", "cdef89ab45670123",
                    "048c159d26ae37bf", "1032547698badcfe", "0213465789badcef"])
        self.pairs(AS_IT_IS, 2, t, "A B C D E F G", "A-B C-D")
        self.pairs(AS_IT_IS, 0, t, "A B C D E F G", "")
        self.pairs(AS_IT_IS, 1, t, "A B C D E F G", "")

    def test_each_cell_from_behind(self):
        for cell in range(16):
            for other in range(16):
                looks = ["0" * place + "1" + "0" * (15 - place) for place in (cell, other)]
                if cell != other:
                    alike = cell // 4 == other // 4 and cell % 4 + other % 4 == 3
                    self.pairs(AS_IT_IS, 2, locker(looks), "A B", "A-B" if alike else "")

    def test_all_flags_of_a_hoist_from_one_side(self):
        self.pairs(AS_IT_IS, 2, self.t, "AA AB BA BB", "AA-BB AB-BA")
        self.pairs(AS_IT_IS, 2, self.t, "AC AD BC BD", "AC-BD AD-BC")
        self.pairs(AS_IT_IS, 2, self.t, "AE BE EA EB EC ED EE", "AE-BE EA-EB EC-ED")
        self.pairs(AS_IT_IS, 2, self.t, "AAA AAB ABA ABB BAA BAB BBA BBB",
                   "AAA-BBB AAB-BBA ABA-BAB ABB-BAA")
        self.pairs(AS_IT_IS, 2, self.t, "AECDAECD AECDAECE AECDBECD BEDCBEDC BEDCBEDE",
                   "AECDAECD-BEDCBEDC AECDAECE-BEDCBEDE")
        for side in (0, 1):
            self.pairs(AS_IT_IS, side, self.t, "AA AB AC AD BA BB BC BD EA EB AECDAECD BEDCBEDC", "")

    def test_from_behind_the_flags_stay_in_their_places(self):
        self.pairs(AS_IT_IS, 2, self.t, "AC BD CA DB", "AC-BD CA-DB")
        self.pairs(AS_IT_IS, 2, self.t, "AE EA EB", "EA-EB")

    def test_both_from_behind(self):
        """Two flags alike from behind are alike from the front too, so that side 1 tells what side 0 tells."""
        light = light_with(1, 2)
        self.pairs(light, 0, self.t, "A B C D E", "")
        t = locker(["1000000000000000", "2000000000000000", "0001000000000000", "0002000000000000"])
        self.pairs(light, 0, t, "A B C D", "A-B C-D")
        self.pairs(light, 1, t, "A B C D", "A-B C-D")
        self.pairs(light, 2, t, "A B C D", "A-B A-C A-D B-C B-D C-D")

    def test_the_light_makes_a_side_like_the_other(self):
        """A's colours 1 and 2 stand where B's 2 and 1 stand."""
        t = locker(["1002000000000000", "2001000000000000", "1003000000000000", "3002000000000000"])
        self.pairs(AS_IT_IS, 0, t, "A B C D", "")
        self.pairs(AS_IT_IS, 2, t, "A B C D", "A-B")
        self.every_side(light_with(1, 2), t, "A B", "A-B")
        self.pairs(light_with(3, 2), 0, t, "A B C D", "A-C")
        self.pairs(light_with(3, 2), 2, t, "A B C D", "A-B A-C B-C")
        self.pairs(light_with(3, 1), 1, t, "A B C D", "A-D")

    def test_a_pair_that_is_alike_in_several_ways_is_told_once(self):
        for light in (0, LAST):
            self.every_side(light, self.t, "A B C E", "A-B A-C A-E B-C B-E C-E")
        t = locker(["1001000000000000", "2002000000000000", "1002000000000000"])
        self.every_side(light_with(1, 2), t, "A B C AC CA", "A-B A-C B-C AC-CA")


class Sames(Doubts):
    """The flags that are flown count, not the signs that they mean."""

    def test_a_same_that_looks_like_a_sign(self):
        t = text("locker L\nsign A 1 square 0000000000000000\nsign B 1 square 1111111111111111\n"
                 "same 1 1 square 2222222222222222\n")
        self.every_side(light_with(1, 2), t, "AA AB BA BB", "AA-AB")
        self.every_side(light_with(0, 2), t, "AA AB BA BB", "BA-BB")
        self.every_side(light_with(0, 1), t, "AA AB BA BB", "AA-BB AB-BA")
        self.every_side(AS_IT_IS, t, "AA AB BA BB", "")

    def test_copies_enough_fly_no_same(self):
        t = text("locker L\nsign A 2 square 0000000000000000\nsign B 1 square 1111111111111111\n"
                 "same 1 1 square 2222222222222222\n")
        self.every_side(light_with(1, 2), t, "AA AB BA BB", "")
        self.every_side(light_with(0, 2), t, "AA AB BA BB", "BA-BB")
        self.every_side(light_with(0, 1), t, "AA AB BA BB", "AA-AB AA-BA AB-BA")

    def test_a_same_of_another_shape(self):
        t = text("locker L\nsign A 1 square 0000000000000000\nsign B 1 square 1111111111111111\n"
                 "same 1 1 tails 0000000000000000\n")
        self.every_side(0, t, "AA AB BA BB", "AA-BB AB-BA")

    def test_a_same_from_behind(self):
        t = text("locker L\nsign A 1 square 0000000000000000\nsign B 1 square 1000000000000000\n"
                 "same 1 1 square 0001000000000000\n")
        self.pairs(AS_IT_IS, 0, t, "AA AB BA BB", "")
        self.pairs(AS_IT_IS, 1, t, "AA AB BA BB", "")
        self.pairs(AS_IT_IS, 2, t, "AA AB BA BB", "AA-AB")

    def test_the_answers_look_is_never_seen(self):
        t = text("locker L\nsign A 1 square 0000000000000000\nsign B 1 square 1111111111111111\n"
                 "answer 8 square 2222222222222222\n")
        for light in (light_with(0, 2), light_with(1, 2), light_with(2, 0), AS_IT_IS):
            self.every_side(light, t, "A B AB BA", "")
        self.every_side(0, t, "A B AB BA", "A-B AB-BA")


class Many(unittest.TestCase):
    def told(self, light, side, b, pairs):
        answer = doubts(light, side, WIDE, text(b))
        self.assertEqual(answer[0], len(pairs))
        self.assertIsNone(differ_at(answer[1:], [number for pair in pairs for number in pair]))

    def test_a_full_book_all_of_whose_pairs_are_told(self):
        b = book_words(f"{told} x" for told in many_rows(48 + 2048)[48:])
        self.assertEqual(judge(WIDE, text(b)), [2048])
        pairs = list(itertools.combinations(range(2048), 2))
        self.assertEqual(len(pairs), 2096128)
        for light, side in ((0, 0), (LAST, 2)):
            self.told(light, side, b, pairs)

    def test_a_full_book_without_a_pair(self):
        b = book_words(f"{told} x" for told in many_rows(2048))
        for side in (0, 1):
            self.told(AS_IT_IS, side, b, [])

    def test_rows_of_one_and_of_two_signs(self):
        b = book_words(f"{told} x" for told in many_rows(2048))
        pairs = list(itertools.combinations(range(48), 2)) + list(itertools.combinations(range(48, 2048), 2))
        self.told(0, 1, b, pairs)

    def test_classes_that_go_through_one_another(self):
        """The looks end in 1 to 48 in base 16: in this light only whether a digit is odd or even is seen."""
        light = 0x1010101010101010
        b = book_words(f"{told} x" for told in many_rows(48))
        cells = [[(place >> shift & 15) % 2 for shift in (0, 4)] for place in range(1, 49)]
        pairs = [(i, j) for i in range(48) for j in range(i + 1, 48) if cells[i] == cells[j]]
        self.assertGreater(len(pairs), 200)
        self.told(light, 0, b, pairs)
        self.told(light, 1, b, pairs)

    def test_the_longest_text(self):
        b = book_of_size(65536)
        self.assertEqual(doubts(AS_IT_IS, 0, WIDE, text(b)), [0])
        self.assertEqual(doubts(0, 0, WIDE, text(b))[0], 48 * 47 // 2 + 952 * 951 // 2)
        self.assertEqual(doubts(0, 0, WIDE, text(book_of_size(65537))), [-2])


class Refused(unittest.TestCase):
    t = locker(["0" * 16, "1" * 16])
    b = book("A B")

    def test_sides(self):
        for light in (0, AS_IT_IS, LAST):
            for side in (3, 4, 5, 16, 255, 256, 2 ** 32, 2 ** 63, LAST - 1, LAST):
                self.assertEqual(doubts(light, side, self.t, self.b), [-1])
                self.assertEqual(doubts(light, side, self.t, book("")), [-1])

    def test_any_light_is_taken(self):
        for light in (0, 1, 2, 15, 16, 255, 2 ** 32, 2 ** 63, LAST - 1, LAST):
            for side in (0, 1, 2):
                same = light % 16 == light // 16 % 16
                self.assertEqual(doubts(light, side, self.t, self.b), [1, 0, 1] if same else [0])

    def test_the_order(self):
        """Each line's refusal comes before those below it; none has further numbers."""
        long = [0] * 65537
        for side in (0, 1, 2, 3, LAST):
            for t, b in ((long, self.b), (self.t, long), (long, long), (long, []), ([], long)):
                self.assertEqual(doubts(0, side, t, b), [-2])
            for t, b in (([], self.b), (self.t[:-1], self.b), ([], []), (self.b, self.t), (text("locker L\n"), [])):
                self.assertEqual(doubts(0, side, t, b), [-6])
            for words in ("", "book X", "book X\n", "book X\nfor L", "book X\nfor M\n", "book X\nfor L\nA x",
                          book_words(["C x"]), book_words(["B x", "A x"]), book_words(["A"]), amend_words([])):
                self.assertEqual(doubts(0, side, self.t, text(words)), [-9])
            self.assertEqual(doubts(0, side, self.t, self.b), [1, 0, 1] if side < 3 else [-1])

    def test_how_long_a_text_may_be(self):
        for size in (65536, 65537, 66000):
            answer = [-9] if size == 65536 else [-2]
            for words in ([120] * size, [10] * size, self.b + [10] * (size - len(self.b))):
                self.assertEqual(doubts(0, 0, self.t, words), answer)
                self.assertEqual(doubts(0, 3, self.t, words), answer)
            answer = [-6] if size == 65536 else [-2]
            self.assertEqual(doubts(0, 0, self.t + [10] * (size - len(self.t)), self.b), answer)

    def test_a_full_book_and_one_entry_more(self):
        lines = [f"{told} x" for told in many_rows(2049)]
        self.assertEqual(doubts(AS_IT_IS, 0, WIDE, text(book_words(lines[:2048]))), [0])
        self.assertEqual(doubts(AS_IT_IS, 0, WIDE, text(book_words(lines))), [-9])


class MeaningsAndNames(unittest.TestCase):
    def test_they_count_for_nothing(self):
        t = text("locker LOCK\nsign Z9 3 square " + "0" * 16 + "\nsign A 1 square " + "1" * 16 + "\n")
        for meanings in (("go", "go"), ("go", "stop"), ("A", "Z9")):
            b = text(book_words([f"Z9 {meanings[0]}", f"A {meanings[1]}"], "BOOK", "LOCK"))
            self.assertEqual(doubts(0, 0, t, b), [1, 0, 1])
            self.assertEqual(doubts(AS_IT_IS, 0, t, b), [0])

    def test_a_book_amended(self):
        t, b = locker(["0" * 16, "1" * 16, "2" * 16]), book("A C AB")
        light = light_with(0, 1)
        self.assertEqual(doubts(light, 0, t, b), [0])
        made = amend(t, b, text(amend_words(["+ B y", "+ A.A y"])))[1:]
        self.assertEqual(doubts(light, 0, t, made), [2, 0, 1, 3, 4])


if __name__ == "__main__":
    unittest.main()
