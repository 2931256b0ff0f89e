"""How a locker's text is judged: its kinds of fault and their lines, and that the calls refuse it by -6 alone."""

import unittest

from flagbooks.desk import judge, row
from flagbooks.lockers import read_locker
from tests.helper import book_words, locker_words, look, many_signs, text

A = f"sign A 1 square {look(1)}"
B = f"sign B 2 tails {look(1)}"
SAME1 = f"same 1 1 square {look(5)}"
SAME3 = f"same 3 8 long {look(5)}"
ANSWER = f"answer 1 square {look(9)}"


class LockerTest(unittest.TestCase):
    def judged(self, words):
        """The locker's fault; the calls must answer in keeping with it."""
        t = text(words)
        fault = read_locker(t).fault
        b = text(book_words([]))
        self.assertEqual(judge(t, b) == [-6], fault != [])
        self.assertEqual(row(0, t, b), [-6] if fault else [-4])
        return fault

    def faulty(self, kind, line, *lines):
        self.assertEqual(self.judged("".join(told + "\n" for told in lines)), [kind, line], lines)

    def good(self, *lines):
        self.assertEqual(self.judged("".join(told + "\n" for told in lines)), [], lines)


class GoodLockers(LockerTest):
    def test_with_and_without_sames_and_answer(self):
        self.good("locker L", A)
        self.good("locker L", A, B)
        self.good("locker L", A, SAME1)
        self.good("locker L", A, ANSWER)
        self.good("locker L", A, B, SAME1, SAME3, ANSWER)

    def test_all_that_a_locker_can_have(self):
        t = locker_words(many_signs(48, 8), [(1, 8), (2, 1), (3, 4), (4, 2)], 8)
        self.assertEqual(self.judged(t), [])

    def test_what_is_read(self):
        locker = read_locker(text("".join(told + "\n" for told in ["locker L", A, B, SAME3, ANSWER])))
        self.assertEqual(locker.name, text("L"))
        self.assertEqual([kind.copies for kind in locker.kinds], [1, 2, 8, 1])
        self.assertEqual([kind.shape for kind in locker.kinds], [0, 1, 2, 0])
        self.assertEqual([kind.look for kind in locker.kinds], [16 ** 15, 16 ** 15, 5 * 16 ** 15, 9 * 16 ** 15])
        self.assertEqual(locker.signs, {(65,): 0, (66,): 1})
        self.assertEqual(locker.sames, {3: 2})

    def test_a_look_is_read_cell_by_cell(self):
        locker = read_locker(text("locker L\nsign A 1 square 0123456789abcdef\n"))
        self.assertEqual(locker.kinds[0].look, sum(cell * 16 ** cell for cell in range(16)))

    def test_names_of_1_and_8_bytes(self):
        for name in ("A", "Z", "0", "9", "ABCDEFGH", "0A1B2Z39"):
            t = text(f"locker {name}\nsign {name} 1 square {look(1)}\n")
            self.assertEqual(judge(t, text(f"book {name}\nfor {name}\n{name} go\n")), [1])

    def test_each_digit_of_copies(self):
        for copies in range(1, 9):
            self.good("locker L", f"sign A {copies} square {look(1)}")

    def test_one_look_in_other_shapes(self):
        self.good("locker L", f"sign A 1 square {look(0)}", f"sign B 1 tails {look(0)}", f"sign C 1 long {look(0)}")


class LinesThatAreNone(LockerTest):
    def test_no_bytes(self):
        self.assertEqual(self.judged(""), [1, 0])

    def test_no_sign(self):
        self.faulty(1, 1, "locker L")
        self.faulty(1, 2, "locker L", SAME1)
        self.faulty(1, 2, "locker L", ANSWER)
        self.faulty(1, 3, "locker L", SAME1, ANSWER)

    def test_missing_line_end(self):
        self.assertEqual(self.judged("locker L"), [1, 0])
        self.assertEqual(self.judged(f"locker L\n{A}"), [1, 1])
        self.assertEqual(self.judged(f"locker L\n{A}\n{B}"), [1, 2])
        self.assertEqual(self.judged(f"locker L\n{A}\n{A}"), [1, 2])

    def test_bytes_behind_the_last_line_end(self):
        self.assertEqual(self.judged(f"locker L\n{A}\n "), [1, 2])
        self.assertEqual(self.judged(f"locker L\n{A}\n\x00"), [1, 2])

    def test_empty_lines(self):
        self.faulty(1, 0, "")
        self.faulty(1, 0, "", "locker L", A)
        self.faulty(1, 1, "locker L", "", A)
        self.faulty(1, 2, "locker L", A, "")

    def test_line_0(self):
        wrong = ("locker", "locker ", "locker  L", " locker L", "locker L ", "locker L M", "Locker L", "lockerL",
                 "locker l", "locker ABCDEFGHI", "locker L\r", "locker\tL", "locker A.B", "book L", A, "locker L-")
        for line in wrong:
            self.faulty(1, 0, line, A)

    def test_names_just_outside(self):
        for byte in ("@", "[", "/", ":", "a", "z", "\x00", "\xff", "\x80", "_"):
            self.faulty(1, 0, f"locker {byte}", A)
            self.faulty(1, 1, "locker L", f"sign A{byte} 1 square {look(1)}")

    def test_locker_line_further_down(self):
        self.faulty(1, 1, "locker L", "locker L", A)
        self.faulty(1, 2, "locker L", A, "locker M")

    def test_names_of_9_and_no_bytes(self):
        self.faulty(1, 1, "locker L", f"sign ABCDEFGHI 1 square {look(1)}")
        self.faulty(1, 1, "locker L", f"sign  1 square {look(1)}")

    def test_words_of_signs(self):
        for line in (f"sign A 0 square {look(1)}", f"sign A 9 square {look(1)}", f"sign A 01 square {look(1)}",
                     f"sign A 10 square {look(1)}", f"sign A x square {look(1)}", f"sign A  square {look(1)}",
                     f"sign A 1 round {look(1)}", f"sign A 1 Square {look(1)}", f"sign A 1 squares {look(1)}",
                     f"sign A 1  {look(1)}", f"sign A square {look(1)}", f"sign 1 square {look(1)}",
                     f"sign A 1 square {look(1)} x", f"sign A 1 square {look(1)} ", f" sign A 1 square {look(1)}",
                     f"sign  A 1 square {look(1)}", f"sign A 1 square  {look(1)}", f"Sign A 1 square {look(1)}",
                     "sign A 1 square", "sign A 1 square ", "sign", "sign A", "sign A 1", f"flag A 1 square {look(1)}"):
            self.faulty(1, 1, "locker L", line)

    def test_looks_that_are_none(self):
        for told in ("0" * 15, "0" * 17, "A" + "0" * 15, "g" + "0" * 15, "0" * 15 + "F", "/" + "0" * 15,
                     ":" + "0" * 15, "`" + "0" * 15, "0" * 8 + " " + "0" * 7, "0" * 8 + "." + "0" * 7):
            self.faulty(1, 1, "locker L", f"sign A 1 square {told}")

    def test_words_of_sames(self):
        for line in (f"same 0 1 square {look(5)}", f"same 5 1 square {look(5)}", f"same 11 1 square {look(5)}",
                     f"same A 1 square {look(5)}", f"same 1 0 square {look(5)}", f"same 1 9 square {look(5)}",
                     f"same 1 1 oblong {look(5)}", f"same 1 1 square {look(5)[1:]}", f"same 1 square {look(5)}",
                     f"same  1 square {look(5)}", f"same 1 1 square {look(5)} 1"):
            self.faulty(1, 2, "locker L", A, line)

    def test_words_of_answers(self):
        for line in (f"answer 0 square {look(5)}", f"answer 9 square {look(5)}", f"answer square {look(5)}",
                     f"answer 1 wide {look(5)}", f"answer 1 square {look(5)}0", f"answer A 1 square {look(5)}",
                     f"answer 1 1 square {look(5)}", "answer", f"answers 1 square {look(5)}"):
            self.faulty(1, 2, "locker L", A, line)

    def test_lines_that_cannot_stand_there(self):
        self.faulty(1, 3, "locker L", A, SAME1, B)
        self.faulty(1, 3, "locker L", A, ANSWER, B)
        self.faulty(1, 3, "locker L", A, ANSWER, SAME1)
        self.faulty(1, 3, "locker L", A, ANSWER, f"answer 1 long {look(7)}")
        self.faulty(1, 2, "locker L", SAME1, A)
        self.faulty(1, 2, "locker L", ANSWER, A)


class OtherFaults(LockerTest):
    def test_a_sign_told_before(self):
        self.faulty(2, 2, "locker L", A, f"sign A 1 square {look(2)}")
        self.faulty(2, 3, "locker L", A, B, f"sign A 1 square {look(2)}")

    def test_a_same_not_above(self):
        self.faulty(2, 3, "locker L", A, SAME1, f"same 1 1 square {look(6)}")
        self.faulty(2, 3, "locker L", A, SAME3, f"same 2 1 square {look(6)}")
        self.faulty(2, 4, "locker L", A, SAME1, SAME3, f"same 2 1 square {look(6)}")

    def test_the_48th_and_the_49th_sign(self):
        self.assertEqual(self.judged(locker_words(many_signs(48, 1))), [])
        self.assertEqual(self.judged(locker_words(many_signs(49, 1))), [3, 49])
        self.assertEqual(self.judged(locker_words(many_signs(50, 1))), [3, 49])
        self.assertEqual(self.judged(locker_words(many_signs(48, 1), [(1, 1)], 1)), [])

    def test_a_look_told_before(self):
        self.faulty(4, 2, "locker L", A, f"sign B 1 square {look(1)}")
        self.faulty(4, 3, "locker L", A, B, f"same 1 1 tails {look(1)}")
        self.faulty(4, 3, "locker L", A, SAME1, f"same 2 1 square {look(5)}")
        self.faulty(4, 2, "locker L", A, f"answer 1 square {look(1)}")
        self.faulty(4, 3, "locker L", A, SAME1, f"answer 1 square {look(5)}")


class WhichFaultIsTold(LockerTest):
    def test_of_two_in_one_line_the_lesser_kind(self):
        full = locker_words(many_signs(48, 1))
        self.faulty(1, 3, "locker L", A, SAME1, A)
        self.faulty(2, 2, "locker L", A, A)
        self.faulty(2, 3, "locker L", A, SAME1, SAME1)
        self.assertEqual(self.judged(full + f"sign S00 1 square {look(99)}\n"), [2, 49])
        self.assertEqual(self.judged(full + f"sign NEW 1 square {look(1)}\n"), [3, 49])
        self.assertEqual(self.judged(full + f"sign NEW 9 square {look(1)}\n"), [1, 49])
        self.assertEqual(self.judged(full + f"sign S00 1 square {look(1)}"), [1, 49])

    def test_of_two_lines_the_first(self):
        self.faulty(4, 2, "locker L", A, f"sign B 1 square {look(1)}", "x")
        self.faulty(2, 2, "locker L", A, f"sign A 1 square {look(2)}", f"sign B 1 square {look(1)}")
        self.faulty(1, 0, "locker l", A, A)
        self.faulty(1, 1, "locker L", "x", A, A)
        self.assertEqual(self.judged(f"locker L\n{A}\n{A}\n{B}"), [2, 2])


if __name__ == "__main__":
    unittest.main()
