"""Tests of greedycuts.writing: points 2, 3, 7, 8, 130, 136, 137 and 139."""

import unittest

from greedycuts.reading import read_cut, read_words
from greedycuts.writing import cut_text, words_text
from tests import helpers
from tests.helpers import (
    AAA, BAD_LISTS, DOC, EIGHT, LETTERS_ONLY, LISTS, LONG, ONE, SMALL, THREE_LETTERS, TWO_LETTERS, all_cuts,
    check_errors, check_kind, check_pure, texts_of,
)

NO_CUTS = (
    None, True, False, 0, 1, 1.5, "", "ab", "a|b", [], ["a"], {}, {"a"}, b"a", (None,), (1,), (True,), (("a",),), (["a"],),
    ("",), ("a", ""), ("c",), ("a", "c"), ("ba",), ("aa",), ("A",), ("a ",), ("a|b",), (b"a",), ("a", None), ("abc",),
    ("a",) * 31, ("ab",) * 15 + ("a",), ("ab",) * 16, ("b",) * 1000,
)


class Lists(unittest.TestCase):
    def test_point_136_by_hand(self):
        self.assertEqual(words_text(SMALL), "a ab b:2")
        self.assertEqual(words_text(ONE), "z:9")
        self.assertEqual(words_text((("z", 1),)), "z")
        self.assertEqual(words_text(DOC), "a ab b bcd c d")
        self.assertEqual(words_text(EIGHT), "a:3 ab:4 abab:9 b:2 ba baa:7 bb:5 bbba:6")
        self.assertEqual(words_text(LETTERS_ONLY), "a b:2 c:3 d:4 e:5 f:6 g:7 h:8")

    def test_points_130_136_and_137(self):
        for words in (*LISTS, LETTERS_ONLY, *TWO_LETTERS, *THREE_LETTERS):
            text = words_text(words)
            self.assertEqual(text, " ".join(word + (f":{price}" if price > 1 else "") for word, price in words))
            self.assertLessEqual(len(text), 200)
            self.assertEqual(read_words(text), words)


class Cuts(unittest.TestCase):
    def test_point_136_by_hand(self):
        self.assertEqual(cut_text(SMALL, ("ab", "a", "b")), "ab|a|b")
        self.assertEqual(cut_text(SMALL, ("ab",)), "ab")
        self.assertEqual(cut_text(SMALL, ()), "")
        self.assertEqual(cut_text(ONE, ("z",) * 30), "z|" * 29 + "z")
        self.assertEqual(cut_text(AAA, ("aaa",) * 10), "aaa|" * 9 + "aaa")

    def test_points_136_and_137(self):
        for words in (DOC, SMALL, LONG, EIGHT):
            for text in texts_of(words, 5):
                for cut in all_cuts(words, text)[::2]:
                    written = cut_text(words, cut)
                    self.assertEqual(written, "|".join(cut))
                    self.assertEqual(read_cut(words, written), cut)

    def test_point_139_30_and_31_letters(self):
        for cut in (("ab",) * 15, ("a",) * 30, ("ab",) * 14 + ("a", "b")):
            self.assertEqual(read_cut(SMALL, cut_text(SMALL, cut)), cut)
        for cut in (("ab",) * 15 + ("a",), ("a",) * 31, ("ab",) * 16):
            self.assertEqual(helpers.told_name(self, cut_text, (SMALL, cut)), "cut")


class Wrong(unittest.TestCase):
    def test_points_7_and_139(self):
        check_errors(self, words_text, (SMALL,), ((0, "words", BAD_LISTS),))
        for good in ((), ("ab", "a"), ("b",) * 30):
            check_errors(self, cut_text, (SMALL, good), ((0, "words", BAD_LISTS), (1, "cut", NO_CUTS)))


class Repeating(unittest.TestCase):
    def test_point_2(self):
        check_pure(self, words_text, EIGHT)
        check_pure(self, cut_text, SMALL, ("ab", "a"))

    def test_point_3_kinds(self):
        check_kind(self, str, words_text(EIGHT))
        check_kind(self, str, cut_text(SMALL, ()))


if __name__ == "__main__":
    unittest.main()
