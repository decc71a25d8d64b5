"""How a row is parted: promise 9, its paragraph of rows and words."""

import unittest

from flipwright.words import words_of

LETTERS = "abcdefghijklmnopqrstuvwxyzABCDEFGHIJKLMNOPQRSTUVWXYZ"
FIGURES = "0123456789"
SIGNS = [chr(code) for code in range(ord(" "), ord("~") + 1)]
SINGLES = [sign for sign in SIGNS if sign not in LETTERS + FIGURES + " "]


class TestWords(unittest.TestCase):
    def test_letters_side_by_side_are_one_word(self):
        self.assertEqual(words_of("let"), ["let"])
        self.assertEqual(words_of(LETTERS), [LETTERS])
        self.assertEqual(words_of("aBc Zz zZ"), ["aBc", "Zz", "zZ"])

    def test_figures_side_by_side_are_one_number(self):
        self.assertEqual(words_of(FIGURES), [FIGURES])
        self.assertEqual(words_of("007 12 0"), ["007", "12", "0"])
        self.assertEqual(words_of("1234567890123"), ["1234567890123"])

    def test_other_signs_are_single(self):
        self.assertEqual(len(SINGLES), 95 - 52 - 10 - 1)
        for sign in SINGLES:
            with self.subTest(sign):
                self.assertEqual(words_of(sign), [sign])
                self.assertEqual(words_of(sign + sign), [sign, sign])
                self.assertEqual(words_of("ab" + sign + "12" + sign), ["ab", sign, "12", sign])
        self.assertEqual(words_of("".join(SINGLES)), SINGLES)

    def test_a_letter_beside_a_figure_is_parted(self):
        self.assertEqual(words_of("again3x=1"), ["again", "3", "x", "=", "1"])
        self.assertEqual(words_of("a1B22cc3"), ["a", "1", "B", "22", "cc", "3"])
        self.assertEqual(words_of("9z"), ["9", "z"])
        self.assertEqual(words_of("Z0"), ["Z", "0"])

    def test_each_letter_and_each_figure_side_by_side(self):
        for letter in LETTERS:
            self.assertEqual(words_of("m" + letter + "M"), ["m" + letter + "M"])
            self.assertEqual(words_of("5" + letter + "5"), ["5", letter, "5"])
        for figure in FIGURES:
            self.assertEqual(words_of("5" + figure + "5"), ["5" + figure + "5"])
            self.assertEqual(words_of("m" + figure + "M"), ["m", figure, "M"])

    def test_blanks_part(self):
        self.assertEqual(words_of("a b"), ["a", "b"])
        self.assertEqual(words_of("1 2"), ["1", "2"])
        self.assertEqual(words_of("+ +"), ["+", "+"])
        self.assertEqual(words_of("a    b  1   2"), ["a", "b", "1", "2"])

    def test_blanks_ahead_and_behind(self):
        self.assertEqual(words_of("   ask x"), ["ask", "x"])
        self.assertEqual(words_of("ask x   "), ["ask", "x"])
        self.assertEqual(words_of("  ask x "), ["ask", "x"])
        self.assertEqual(words_of(" ="), ["="])

    def test_a_row_without_words(self):
        self.assertEqual(words_of(""), [])
        self.assertEqual(words_of(" "), [])
        self.assertEqual(words_of("     "), [])

    def test_rows_as_they_are_written(self):
        self.assertEqual(
            words_of("def f(a, b) = {ab: a.c, d: pick(3:1, 5:2)}"),
            ["def", "f", "(", "a", ",", "b", ")", "=", "{", "ab", ":", "a", ".", "c", ",",
             "d", ":", "pick", "(", "3", ":", "1", ",", "5", ":", "2", ")", "}"])
        self.assertEqual(
            words_of("let x=flip(1/2)*rest(y,3)<z-1"),
            ["let", "x", "=", "flip", "(", "1", "/", "2", ")", "*",
             "rest", "(", "y", ",", "3", ")", "<", "z", "-", "1"])

    def test_long_rows(self):
        self.assertEqual(words_of("a" * 1000), ["a" * 1000])
        self.assertEqual(words_of("a1" * 500), ["a", "1"] * 500)
        self.assertEqual(words_of(" " * 1000 + "x"), ["x"])
        self.assertEqual(words_of("x" * 200000), ["x" * 200000])

    def test_what_the_words_are(self):
        for word in words_of("again 3 x = Y"):
            self.assertIs(type(word), str)

    def test_each_told_list_is_a_new_one(self):
        for row in ("", "  ", "let x = 1"):
            first = words_of(row)
            wanted = list(first)
            self.assertIs(type(first), list)
            self.assertIsNot(words_of(row), words_of(row))
            first.append("more")
            first[0] = "other"
            self.assertEqual(words_of(row), wanted)

    def test_argument_name(self):
        self.assertEqual(words_of(row="ask 1"), ["ask", "1"])


if __name__ == "__main__":
    unittest.main()
