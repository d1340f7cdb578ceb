import unittest

from shootdays.words import is_name, number_in

SMALL = "abcdefghijklmnopqrstuvwxyz"
FIGURES = "0123456789"
SIGNS = [chr(code) for code in range(32, 127)] + ["\n", "\t", "\u00e9", "\u00df", "\u0663", "\u00b2"]


class NameTest(unittest.TestCase):
    def test_one_to_eight_small_letters_are_a_name(self):
        for many in range(1, 9):
            self.assertIs(is_name("a" * many), True)
            self.assertIs(is_name("z" * many), True)
        for letter in SMALL:
            self.assertIs(is_name(letter), True)
        self.assertIs(is_name("abcdefgh"), True)

    def test_none_and_nine_letters_are_no_name(self):
        self.assertIs(is_name(""), False)
        self.assertIs(is_name("abcdefghi"), False)
        self.assertIs(is_name("a" * 2800), False)

    def test_any_other_sign_makes_it_no_name(self):
        for sign in SIGNS:
            if sign in SMALL:
                continue
            for text in (sign, sign + "ab", "a" + sign + "b", "ab" + sign, "abcdefg" + sign):
                with self.subTest(text=text):
                    self.assertIs(is_name(text), False)

    def test_the_same_asked_again_is_told_the_same(self):
        for text in ("dawn", "Dawn", ""):
            self.assertEqual(is_name(text), is_name(text))


class NumberTest(unittest.TestCase):
    def test_plain_numbers(self):
        for number in (0, 1, 9, 10, 42, 99, 100, 1009, 123456789012):
            with self.subTest(number=number):
                told = number_in(str(number), 12)
                self.assertEqual(told, number)
                self.assertIs(type(told), int)

    def test_the_empty_text_is_none(self):
        for most in (1, 12, 60):
            self.assertIsNone(number_in("", most))

    def test_no_nought_ahead_but_in_nought_itself(self):
        for most in (1, 12, 60):
            self.assertEqual(number_in("0", most), 0)
        for text in ("00", "01", "007", "000", "0" * 12, "0" * 11 + "5"):
            with self.subTest(text=text):
                self.assertIsNone(number_in(text, 12))
        self.assertEqual(number_in("100", 12), 100)

    def test_other_signs_ahead_behind_and_within(self):
        for sign in SIGNS:
            if sign in FIGURES:
                continue
            for text in (sign, sign + "12", "12" + sign, "1" + sign + "2"):
                with self.subTest(text=text):
                    self.assertIsNone(number_in(text, 12))

    def test_what_python_itself_would_read_is_still_none(self):
        for text in ("+5", "-5", "-0", " 5", "5 ", "5\n", "1_0", "0x1f", "1e3", "1.0", "\u0661\u0662"):
            with self.subTest(text=text):
                self.assertIsNone(number_in(text, 12))

    def test_just_as_many_figures_as_most_and_one_more(self):
        for most in range(1, 61):
            with self.subTest(most=most):
                self.assertEqual(number_in("9" * most, most), 10 ** most - 1)
                self.assertEqual(number_in("1" + "0" * (most - 1), most), 10 ** (most - 1))
                self.assertIsNone(number_in("9" * (most + 1), most))
                self.assertIsNone(number_in("1" + "0" * most, most))
                self.assertIsNone(number_in("0" * (most + 1), most))

    def test_a_very_long_text(self):
        self.assertIsNone(number_in("1" * 2800, 60))
        self.assertIsNone(number_in("1" * 10000, 60))


if __name__ == "__main__":
    unittest.main()
