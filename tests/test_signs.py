"""Points 4 to 6 and the part restruct/signs.py of the interface."""

import unittest

from restruct.errors import BadLine
from restruct.signs import signs_of

LETTERS = "abcdefghijklmnopqrstuvwxyz"
KEYWORDS = "entry goto else if print block loop break continue exit".split()
SYMBOLS = "(){}:=+-*<"


class SignsTest(unittest.TestCase):

    def assert_wrong(self, line):
        with self.assertRaises(BadLine, msg=repr(line)):
            signs_of(line)

    def assert_all_wrong(self, lines):
        for line in lines:
            self.assert_wrong(line)

    def assert_signs(self, line, *signs):
        self.assertEqual(signs_of(line), list(signs), line)


class Lines(SignsTest):

    def test_the_example_of_the_interface(self):
        self.assert_signs("a.2b <17", ("word", "a.2"), ("word", "b"), ("symbol", "<"), ("number", 17))

    def test_kinds_of_values(self):
        signs = signs_of("a 1 (")
        self.assertIs(type(signs), list)
        for sign in signs:
            self.assertIs(type(sign), tuple)
        self.assertEqual([type(value) for _, value in signs], [str, int, str])

    def test_blank_lines_have_no_signs(self):
        for line in ("", " ", "  ", " " * 50):
            self.assert_signs(line)

    def test_every_call_returns_a_new_list(self):
        for line in ("", "a"):
            signs_of(line).append(("word", "b"))
            self.assertEqual(len(signs_of(line)), len(line))

    def test_spaces_only_separate(self):
        expected = [("word", "a"), ("symbol", ":"), ("word", "x"), ("symbol", "="), ("number", 10)]
        for line in ("a:x=10", "a: x = 10", "  a  :  x  =  10  "):
            self.assertEqual(signs_of(line), expected, line)

    def test_signs_without_spaces_between_them(self):
        self.assert_signs("2a", ("number", 2), ("word", "a"))
        self.assert_signs("a.2b", ("word", "a.2"), ("word", "b"))
        self.assert_signs("a.2b.3", ("word", "a.2"), ("word", "b.3"))
        self.assert_signs("12ab.34c", ("number", 12), ("word", "ab.34"), ("word", "c"))
        self.assert_signs("0a", ("number", 0), ("word", "a"))
        self.assert_signs("a2", ("word", "a"), ("number", 2))
        self.assert_signs("a.2(3)", ("word", "a.2"), ("symbol", "("), ("number", 3), ("symbol", ")"))

    def test_signs_with_spaces_between_them(self):
        self.assert_signs("a.2 3", ("word", "a.2"), ("number", 3))
        self.assert_signs("a.2 b", ("word", "a.2"), ("word", "b"))
        self.assert_signs("a b", ("word", "a"), ("word", "b"))
        self.assert_signs("1 2", ("number", 1), ("number", 2))
        self.assert_signs("a 2", ("word", "a"), ("number", 2))
        self.assert_signs("0 7", ("number", 0), ("number", 7))
        self.assert_signs("1000000 0", ("number", 1000000), ("number", 0))
        self.assert_signs("abcdefgh i", ("word", "abcdefgh"), ("word", "i"))

    def test_a_wrong_sign_makes_the_whole_line_wrong(self):
        for wrong in ("?", "007", "a.1", "abcdefghi"):
            self.assert_all_wrong((wrong, f"{wrong} a", f"a {wrong}", f"a + {wrong} + b", f"  {wrong}  "))


class Words(SignsTest):

    def test_every_letter(self):
        for letter in LETTERS:
            self.assert_signs(letter, ("word", letter))

    def test_lengths(self):
        for many in range(1, 9):
            self.assert_signs("w" * many, ("word", "w" * many))
        self.assert_all_wrong(("abcdefghi", "w" * 9, "w" * 16, "w" * 17, "w" * 5000))

    def test_lengths_with_a_dot_and_a_number(self):
        self.assert_signs("abcdefgh.2", ("word", "abcdefgh.2"))
        self.assert_signs("abcdefgh.99", ("word", "abcdefgh.99"))
        self.assert_signs("abcdefgh.2abcdefgh", ("word", "abcdefgh.2"), ("word", "abcdefgh"))
        self.assert_all_wrong(("abcdefghi.2", "a.2abcdefghi"))

    def test_all_letters_that_stand_together_are_one_word(self):
        self.assert_signs("gotoa", ("word", "gotoa"))
        self.assert_signs("ifelse", ("word", "ifelse"))

    def test_numbers_behind_a_dot(self):
        for number in range(2, 100):
            self.assert_signs(f"a.{number}", ("word", f"a.{number}"))

    def test_wrong_numbers_behind_a_dot(self):
        self.assert_all_wrong(("a.0", "a.1", "a.100", "a.101", "a.999", "a.1000000", "a." + "9" * 5000))

    def test_a_zero_in_front_behind_a_dot(self):
        self.assert_all_wrong(("a.02", "a.00", "a.01", "a.002", "a.099", "a.09"))

    def test_all_digits_behind_a_dot_belong_together(self):
        self.assert_all_wrong(("a.123", "a.990", "a.200b"))

    def test_a_dot_without_a_number(self):
        self.assert_all_wrong(("a.", "a. ", "a.b", "a.+", "a.-2", "a.(2)", "a.:", "a.2b."))

    def test_spaces_around_a_dot(self):
        self.assert_all_wrong(("a .2", "a. 2", "a . 2"))

    def test_a_dot_without_letters(self):
        self.assert_all_wrong((".", ".2", "2.3", "2.", "(.2", "0.5", " .2", ":.2"))

    def test_two_dots(self):
        self.assert_all_wrong(("a..2", "a.2.", "a.2.3", "a.2..3", "a.b.2", "..", "a.2 .3"))

    def test_keywords_are_words(self):
        for keyword in KEYWORDS:
            self.assert_signs(keyword, ("word", keyword))
            self.assert_signs(f"{keyword}.2", ("word", f"{keyword}.2"))
        self.assert_signs("goto exit", ("word", "goto"), ("word", "exit"))


class Numbers(SignsTest):

    def test_numbers(self):
        for number in (0, 1, 2, 9, 10, 17, 99, 100, 101, 1234, 56789, 100000, 999999, 1000000):
            self.assert_signs(str(number), ("number", number))

    def test_numbers_that_are_too_great(self):
        self.assert_all_wrong(("1000001", "1000010", "2000000", "9999999", "10000000", "9" * 5000, "1" + "0" * 20))

    def test_a_zero_in_front(self):
        self.assert_all_wrong(("00", "07", "000", "01", "010", "0000000", "01000000", "0" * 5000, "a 07", "a+07"))

    def test_all_digits_that_stand_together_are_one_number(self):
        self.assert_signs("12", ("number", 12))
        self.assert_signs("907", ("number", 907))

    def test_a_minus_is_a_sign_of_its_own(self):
        self.assert_signs("-1", ("symbol", "-"), ("number", 1))


class Symbols(SignsTest):

    def test_each_symbol(self):
        for symbol in SYMBOLS:
            self.assert_signs(symbol, ("symbol", symbol))
            self.assert_signs(f"a{symbol}1", ("word", "a"), ("symbol", symbol), ("number", 1))

    def test_all_symbols_together(self):
        expected = [("symbol", symbol) for symbol in SYMBOLS]
        self.assertEqual(signs_of(SYMBOLS), expected)
        self.assertEqual(signs_of(" ".join(SYMBOLS)), expected)

    def test_symbols_do_not_join(self):
        for symbol in SYMBOLS:
            self.assert_signs(symbol * 2, ("symbol", symbol), ("symbol", symbol))
        self.assert_signs("<=", ("symbol", "<"), ("symbol", "="))


class OtherCharacters(SignsTest):

    def test_every_other_character_of_ascii_is_wrong(self):
        allowed = LETTERS + "0123456789" + SYMBOLS + " "
        for code in range(128):
            wrong = chr(code)
            if wrong not in allowed and wrong != ".":
                self.assert_all_wrong((wrong, f"a {wrong} b", f"a{wrong}", f"{wrong}1", f"a.2{wrong}"))

    def test_capital_letters(self):
        for letter in LETTERS.upper():
            self.assert_all_wrong((letter, f"a{letter}", f"{letter}a"))

    def test_other_spaces(self):
        for code in (0x09, 0x0a, 0x0b, 0x0c, 0x0d, 0x1c, 0x1f, 0x85, 0xa0, 0x2003, 0x2028, 0x3000, 0xfeff):
            self.assert_all_wrong((chr(code), f"a{chr(code)}b", f"{chr(code)}a", f"a{chr(code)}", f" {chr(code)} "))

    def test_an_underscore(self):
        self.assert_all_wrong(("_", "a_b", "_a", "a_", "1_000", "1_0"))

    def test_other_letters(self):
        for code in (0xe4, 0xdf, 0xaa, 0xb5, 0x131, 0x3b1, 0x430, 0x5d0, 0x4e2d, 0xff41, 0x1d41a):
            self.assert_all_wrong((chr(code), f"a{chr(code)}", f"{chr(code)}a", f"a.2{chr(code)}"))

    def test_other_digits(self):
        for code in (0xb2, 0xb9, 0xbd, 0x663, 0x966, 0x2160, 0x2460, 0xff12, 0x1d7d0):
            self.assert_all_wrong((chr(code), f"1{chr(code)}", f"{chr(code)}1", f"a.{chr(code)}", f"a.2{chr(code)}"))

    def test_signs_that_look_like_symbols(self):
        self.assert_all_wrong((">", "/", "!", "[", "]", ",", ";", "&", "|", "#", "'", '"', chr(0x2212), chr(0xd7)))


if __name__ == "__main__":
    unittest.main()
