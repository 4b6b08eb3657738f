import unittest

from rimread.names import is_name


class NamesTest(unittest.TestCase):
    def test_names(self):
        for text in ("a", "z", "0", "9", "a1", "007", "post", "abcdefgh", "12345678", "stuvwxyz", "ijklmnqr"):
            with self.subTest(text=text):
                self.assertIs(is_name(text), True)

    def test_length(self):
        self.assertIs(is_name(""), False)
        for length in range(1, 9):
            self.assertIs(is_name("a" * length), True)
        for length in (9, 10, 4000):
            self.assertIs(is_name("a" * length), False)

    def test_capital_letters_are_none(self):
        for text in ("A", "Z", "aB", "Ab", "abcdefgH"):
            with self.subTest(text=text):
                self.assertIs(is_name(text), False)

    def test_blanks_are_none(self):
        for text in (" ", " a", "a ", "a b", "\n", "a\n", "\na"):
            with self.subTest(text=text):
                self.assertIs(is_name(text), False)

    def test_of_all_signs_just_small_letters_and_figures(self):
        for code in range(ord(" "), ord("~") + 1):
            sign = chr(code)
            right = "a" <= sign <= "z" or "0" <= sign <= "9"
            for text in (sign, "a" + sign, sign + "a", "a" + sign + "0"):
                with self.subTest(text=text):
                    self.assertIs(is_name(text), right)


if __name__ == "__main__":
    unittest.main()
