"""Tests of greedycuts.scanning: points 2, 3, 7, 8, 130, 131 and 139."""

import unittest
from itertools import product

from greedycuts.scanning import scan
from tests.helpers import BAD_LINES, check_errors, check_kind, check_pure, plain_scan, told_problem


class Tokens(unittest.TestCase):
    def test_point_131_all_short_texts(self):
        problems = 0
        for many in range(6):
            for row in product("az0:| A"[:7 if many < 5 else 6], repeat=many):
                text = "".join(row)
                expected = plain_scan(text)
                if isinstance(expected, tuple):
                    problems += 1
                    self.assertEqual(told_problem(self, scan, text), expected, text)
                else:
                    self.assertEqual(scan(text), expected, text)
        self.assertGreater(problems, 100)

    def test_point_131_by_hand(self):
        self.assertEqual(scan("ab:3 a|"), [
            ("word", "ab", 1), ("sign", ":", 3), ("number", "3", 4), ("word", "a", 6), ("sign", "|", 7), ("end", "", 8),
        ])
        self.assertEqual(scan("  z  009 "), [("word", "z", 3), ("number", "009", 6), ("end", "", 10)])

    def test_point_131_tokens_directly_side_by_side(self):
        self.assertEqual(scan("a1b22:|::ab"), [
            ("word", "a", 1), ("number", "1", 2), ("word", "b", 3), ("number", "22", 4), ("sign", ":", 6), ("sign", "|", 7),
            ("sign", ":", 8), ("sign", ":", 9), ("word", "ab", 10), ("end", "", 12),
        ])
        self.assertEqual(scan("abcd123456wxyz"), [
            ("word", "abcd", 1), ("number", "123456", 5), ("word", "wxyz", 11), ("end", "", 15),
        ])

    def test_points_130_and_131_the_end(self):
        self.assertEqual(scan(""), [("end", "", 1)])
        for many in (1, 2, 199, 200):
            self.assertEqual(scan(" " * many), [("end", "", many + 1)])
        self.assertEqual(scan("a" + " " * 199), [("word", "a", 1), ("end", "", 201)])
        self.assertEqual(scan(" " * 199 + "|"), [("sign", "|", 200), ("end", "", 201)])
        self.assertEqual(scan("a " * 100)[-2:], [("word", "a", 199), ("end", "", 201)])
        self.assertEqual(scan(":" * 200), [*[("sign", ":", column) for column in range(1, 201)], ("end", "", 201)])

    def test_point_131_words_of_four_and_five_letters(self):
        self.assertEqual(scan("abcd"), [("word", "abcd", 1), ("end", "", 5)])
        for text, column in (("abcde", 1), (" abcde", 2), ("abcd abcde", 6), ("a:1 zzzzz|", 5), ("1aaaaa", 2), ("a" * 200, 1)):
            self.assertEqual(told_problem(self, scan, text), (column, "a word has at most 4 letters"))

    def test_point_131_numbers_of_six_and_seven_digits(self):
        for number in ("0", "000000", "123456", "999999", "000001"):
            self.assertEqual(scan(number), [("number", number, 1), ("end", "", len(number) + 1)])
        for text, column in (("1234567", 1), ("0000000", 1), (" 0000001", 2), ("a:1234567", 3), ("123456 1234567", 8)):
            self.assertEqual(told_problem(self, scan, text), (column, "a number has at most 6 digits"))

    def test_point_131_other_characters(self):
        for character in ("A", "Z", "_", ".", ";", "-", "+", "\t", "\r", "\0", "\u00a0", "\u00e4", "\u00b2", "\u0663", "\u4e00",
                          "\U0001f600", "\u2028", "\x0b", "\x0c", "`", "{", "/", "@", "'", "\"", "\\"):
            self.assertEqual(told_problem(self, scan, character), (1, "no token begins here"), repr(character))
            self.assertEqual(told_problem(self, scan, "a: 12" + character + "b"), (6, "no token begins here"))
            self.assertEqual(told_problem(self, scan, "abcd" + character), (5, "no token begins here"))

    def test_point_131_every_character_up_to_300(self):
        for number in range(300):
            character = chr(number)
            if character == "\n":
                continue
            expected = plain_scan(character)
            if isinstance(expected, tuple):
                self.assertEqual(told_problem(self, scan, character), expected)
            else:
                self.assertEqual(scan(character), expected)

    def test_point_131_the_first_problem(self):
        for text, expected in (
            ("abcde A", (1, "a word has at most 4 letters")), ("A abcde", (1, "no token begins here")),
            ("1234567abcde", (1, "a number has at most 6 digits")), ("abcde1234567", (1, "a word has at most 4 letters")),
            ("a:: 1234567 abcde", (5, "a number has at most 6 digits")), ("a b c#1234567", (6, "no token begins here")),
            ("##", (1, "no token begins here")), ("a\tb", (2, "no token begins here")),
        ):
            self.assertEqual(told_problem(self, scan, text), expected)


class Wrong(unittest.TestCase):
    def test_points_7_130_and_139(self):
        for good in ("", "a", "a:1 |", " " * 200, "abcd " * 40):
            check_errors(self, scan, (good,), ((0, "text", BAD_LINES),))

    def test_point_139_before_the_problems(self):
        for text in ("A\n", "abcde\n", "A" * 201):
            check_errors(self, scan, ("a",), ((0, "text", (text,)),))


class Repeating(unittest.TestCase):
    def test_point_2(self):
        for text in ("", "a:1 b|", "  "):
            check_pure(self, scan, text)

    def test_point_3_kinds(self):
        tokens = scan("a:1 |")
        check_kind(self, list, tokens)
        for token in tokens:
            check_kind(self, tuple, token)
            check_kind(self, str, token[0])
            check_kind(self, str, token[1])
            check_kind(self, int, token[2])


if __name__ == "__main__":
    unittest.main()
