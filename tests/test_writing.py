import random
import sys
import unittest

from plates import some_fraction
from rimread.writing import fraction_from_text, fraction_shown, whole_from_text, whole_shown, worth_from_text

LENGTHS = [1, 2, 63, 64, 65, 127, 128, 129, 300, 4000]


# Python itself writes no number of more figures than it is told to, and reads none.
class WithoutLimit(unittest.TestCase):
    def setUp(self):
        self.limit = sys.get_int_max_str_digits()

    def tearDown(self):
        sys.set_int_max_str_digits(self.limit)

    def test_many_figures(self):
        dice = random.Random(111)
        for length in LENGTHS + [4300, 4301, 9000]:
            for number in (10 ** length - 1, 10 ** (length - 1), dice.randrange(10 ** length)):
                sys.set_int_max_str_digits(0)
                right = str(number)
                sys.set_int_max_str_digits(640)
                self.assertEqual(whole_shown(number), right)
                self.assertEqual(whole_from_text(right), number)
                self.assertEqual(whole_shown(-number), "-" + right if number else "0")
                self.assertEqual(fraction_from_text("-" + right + "/1"), (-number, 1) if number else None)


class WritingTest(unittest.TestCase):
    def test_whole_numbers(self):
        for number in list(range(-12, 120)) + [10 ** 64, -(10 ** 64), 10 ** 64 - 1, 7 * 10 ** 128 + 5]:
            self.assertEqual(whole_shown(number), str(number))
            self.assertEqual(whole_from_text(str(number)), number if number >= 0 else None)

    def test_numbers_written_otherwise(self):
        for text in ("", "00", "01", "-1", "+1", "-0", " 1", "1 ", "1_000", "1.0", "x", "1x", "x1", "0x1", "1/1", "1e3"):
            self.assertIsNone(whole_from_text(text))
        for text in ("\u0661", "1\u0660", "\u00b2"):
            self.assertIsNone(whole_from_text(text))

    def test_fractions(self):
        self.assertEqual(fraction_shown((0, 1)), "0/1")
        self.assertEqual(fraction_shown((-7, 12)), "-7/12")
        self.assertEqual(fraction_from_text("0/1"), (0, 1))
        self.assertEqual(fraction_from_text("-7/12"), (-7, 12))
        dice = random.Random(112)
        for turn in range(100):
            value = some_fraction(dice, 10 ** dice.randint(1, 80))
            self.assertEqual(fraction_from_text(fraction_shown(value)), value)
            self.assertEqual(worth_from_text(fraction_shown(value)), value if value[0] > 0 else None)

    def test_fractions_written_otherwise(self):
        texts = "1 1/ /1 / 1//1 1/1/1 2/4 0/2 -0/1 0/0 1/0 01/2 1/02 +1/2 1/+2 1/-2 -1/-2 --1/2 -/1 - 1/2.0 a/b -6/4"
        for text in texts.split() + ["", " 1/2", "1/2 ", "1 /2", "1/ 2", "- 1/2", "1/2\n"]:
            self.assertIsNone(fraction_from_text(text))
            self.assertIsNone(worth_from_text(text))


if __name__ == "__main__":
    unittest.main()
