"""Looks in a light and from behind, as numbers."""

import random
import unittest

from flagbooks.looks import digits, from_behind, in_light, number_of
from flagbooks.lockers import read_locker
from tests.helper import text

AS_IT_IS = 0xfedcba9876543210
LAST = 2 ** 64 - 1


def read(word):
    """The look that a locker's text tells so."""
    return read_locker(text(f"locker L\nsign A 1 square {word}\n")).kinds[0].look


class Looks(unittest.TestCase):
    def test_a_look_as_a_number(self):
        """Cell i's colour is the digit of 16^i, and in a text cell 0 stands first."""
        self.assertEqual(read("0" * 16), 0)
        self.assertEqual(read("1" + "0" * 15), 1)
        self.assertEqual(read("0" * 15 + "1"), 16 ** 15)
        self.assertEqual(read("0123456789abcdef"), AS_IT_IS)
        self.assertEqual(read("f" * 16), LAST)

    def test_digits_and_numbers(self):
        self.assertEqual(digits(0), [0] * 16)
        self.assertEqual(digits(LAST), [15] * 16)
        self.assertEqual(digits(AS_IT_IS), list(range(16)))
        chance = random.Random(41)
        for turn in range(300):
            number = chance.randrange(2 ** 64)
            self.assertEqual(number_of(digits(number)), number)
            self.assertEqual(digits(number), [int(digit, 16) for digit in f"{number:016x}"[::-1]])

    def test_the_class_of_each_colour(self):
        for colour in range(16):
            for told in range(16):
                light = told * 16 ** colour
                for other in range(16):
                    seen = in_light(int(f"{other:x}" * 16, 16), light)
                    self.assertEqual(seen, int(f"{told:x}" * 16, 16) if other == colour else 0)

    def test_some_lights(self):
        chance = random.Random(43)
        for turn in range(300):
            look = chance.randrange(2 ** 64)
            self.assertEqual(in_light(look, AS_IT_IS), look)
            self.assertEqual(in_light(look, 0), 0)
            self.assertEqual(in_light(look, LAST), LAST)
            light = chance.randrange(2 ** 64)
            self.assertEqual(in_light(look, light), sum(light // 16 ** (look // 16 ** cell % 16) % 16 * 16 ** cell
                                                        for cell in range(16)))

    def test_from_behind(self):
        self.assertEqual(from_behind(read("0123456789abcdef")), read("32107654ba98fedc"))
        self.assertEqual(from_behind(read("1000000000000000")), read("0001000000000000"))
        self.assertEqual(from_behind(read("0000000000000020")), read("0000000000000200"))
        self.assertEqual(from_behind(0), 0)
        self.assertEqual(from_behind(LAST), LAST)

    def test_from_behind_twice(self):
        chance = random.Random(47)
        for turn in range(300):
            look, light = chance.randrange(2 ** 64), chance.randrange(2 ** 64)
            self.assertEqual(from_behind(from_behind(look)), look)
            self.assertEqual(in_light(from_behind(look), light), from_behind(in_light(look, light)))


if __name__ == "__main__":
    unittest.main()
