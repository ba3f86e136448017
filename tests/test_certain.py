"""Tests of greedycuts.certain: points 2, 7, 8 and 58 to 63."""

import unittest

from greedycuts.certain import accepts_contrary, first_contrary, is_certain
from tests import helpers
from tests.helpers import (
    ALL_AS, BAD_LISTS, BAD_TEXTS, DEAR, DOC, EIGHT, LETTERS_ONLY, LISTS, LONG, ONE, THREE_LETTERS, TWO_LETTERS,
    check_errors, greedy,
)

THIRTY = "a" * 30
# What is no row of at most 40 words of DOC.
NO_ROWS = (
    None, True, 0, "", "a", "ab", [], ["a"], ("",), ("abcd",), ("a", "bc"), ("a", None), ("a", 1), ("a", True),
    ("a", ["b"]), ("a", ("b",)), (("a",),), ("A",), ("z",), ("a", ""), ("a",) * 41, ("bcd",) * 50, ("a",) * 1000,
)


def cases():
    """Word lists with texts and rows; the rows begin with what is given out, so that they are hard to refuse."""
    for words in (*LISTS, *TWO_LETTERS[::7], *THREE_LETTERS[::9]):
        for text in helpers.texts_of(words, 3):
            given, _ = helpers.read_slowly(words, "", text)
            for row in helpers.rows_of(words, 2 if len(words) < 6 else 1):
                yield words, text, row
                yield words, text, (*given, *row)
            for many in range(len(given)):
                yield words, text, tuple(given[:many])


def contraries(words, text, row, most):
    """All contraries of at most so many letters, in order by length."""
    return [rest for rest in helpers.texts_of(words, most) if greedy(words, text + rest)[:len(row)] != row]


class Certain(unittest.TestCase):
    def test_points_58_and_59(self):
        for words, text, row in cases():
            found = contraries(words, text, row, 3)
            self.assertIs(is_certain(words, text, row), not found)
            self.assertEqual(first_contrary(words, text, row), found[0] if found else None)

    def test_point_58_what_was_given_out(self):
        for words, text, row in cases():
            given, _ = helpers.read_slowly(words, "", text)
            self.assertIs(is_certain(words, text, row), tuple(given[:len(row)]) == row)

    def test_point_58_longer_continuations_change_nothing(self):
        for words in (DEAR, LONG, *TWO_LETTERS[::9]):
            for text in helpers.texts_of(words, 3):
                for row in helpers.rows_of(words, 2):
                    if is_certain(words, text, row):
                        self.assertEqual(contraries(words, text, row, 6), [])

    def test_points_58_and_59_edges(self):
        for words in (*LISTS, LETTERS_ONLY):
            for text in ("", words[0][0], words[0][0] * 30):
                self.assertIs(is_certain(words, text, ()), True)
                self.assertIsNone(first_contrary(words, text, ()))
                for rest in ("", words[0][0], words[0][0] * 30):
                    self.assertIs(accepts_contrary(words, text, (), rest), False)
            self.assertEqual(first_contrary(words, "", (words[0][0],)), "")
        self.assertIs(is_certain(ONE, "z" * 30, ("z",) * 30), True)
        self.assertIs(is_certain(ONE, "z" * 30, ("z",) * 40), False)
        self.assertEqual(first_contrary(ONE, "z" * 30, ("z",) * 40), "")
        self.assertIs(is_certain(ALL_AS, THIRTY, ("aaaa",) * 7), True)
        self.assertEqual(first_contrary(ALL_AS, THIRTY, ("aaaa",) * 7 + ("aa",)), "a")
        self.assertEqual(first_contrary(ALL_AS, THIRTY, ("aaaa",) * 8), "")

    def test_point_59_contraries_of_each_length(self):
        words = (("a", 1), ("abbb", 1), ("b", 1))
        self.assertEqual(first_contrary(words, "a", ("a",)), "bbb")
        self.assertEqual(first_contrary(words, "ba", ("b", "a")), "bbb")
        self.assertEqual(first_contrary(words, "ab", ("a",)), "bb")
        self.assertEqual(first_contrary(words, "abb", ("a", "b", "b")), "b")
        self.assertEqual(first_contrary(words, "a", ("b",)), "")
        self.assertEqual(first_contrary(words, THIRTY, ("a",) * 30), "bbb")
        self.assertIs(is_certain(words, THIRTY, ("a",) * 29), True)
        # Both aab and abb are words; the one that comes first in order by length is told.
        some = (("a", 1), ("aab", 1), ("abb", 1), ("b", 1))
        self.assertEqual(first_contrary(some, "a", ("a",)), "ab")
        self.assertEqual(first_contrary((("a", 1), ("aaaa", 1), ("ab", 1), ("b", 1)), "a", ("a",)), "b")

    def test_point_60_one_is_shown_and_never_both(self):
        for words, text, row in cases():
            rest = first_contrary(words, text, row)
            self.assertIs(is_certain(words, text, row), rest is None)
            if rest is not None:
                self.assertLessEqual(len(rest), 3)
                self.assertIs(accepts_contrary(words, text, row, rest), True)


class Contraries(unittest.TestCase):
    def test_points_59_and_60(self):
        for words in (DEAR, LONG, *TWO_LETTERS[::6]):
            for text in helpers.texts_of(words, 2):
                for row in helpers.rows_of(words, 2):
                    found = contraries(words, text, row, 4)
                    for rest in helpers.texts_of(words, 4):
                        self.assertIs(accepts_contrary(words, text, row, rest), rest in found)

    def test_point_59_together_more_than_thirty_letters(self):
        self.assertIs(accepts_contrary(ALL_AS, THIRTY, ("aaaa",) * 7 + ("aa",), THIRTY), True)
        self.assertIs(accepts_contrary(ALL_AS, THIRTY, ("aaaa",) * 15, THIRTY), False)
        self.assertIs(accepts_contrary(ALL_AS, THIRTY, ("aaaa",) * 15, "a" * 29), True)
        self.assertIs(accepts_contrary(ALL_AS, THIRTY, ("aaaa",) * 16, THIRTY), True)
        self.assertIs(accepts_contrary(ONE, "z" * 30, ("z",) * 40, "z" * 10), False)
        self.assertIs(accepts_contrary(ONE, "z" * 30, ("z",) * 40, "z" * 9), True)
        self.assertIs(accepts_contrary(DOC, "a" + "bcd" * 9, ("a",) + ("bcd",) * 9, "bcd" * 10), True)
        self.assertIs(accepts_contrary(DOC, "c" + "bcd" * 9, ("c",) + ("bcd",) * 19, "bcd" * 10), False)

    def test_points_60_and_63_every_value_is_valid(self):
        for value in (
            None, True, False, 0, 1, -3, 10 ** 40, 1.5, (), [], ("c", "d"), ["c", "d"], ("cd",), (None,), {}, {"cd"},
            b"cd", "z", "CD", "cd ", "cd\n", "cdz", "\u00e9", "cd" + "a" * 29, "cd" * 500, [[]], (((),),),
        ):
            self.assertIs(accepts_contrary(DOC, "abb", ("ab", "b"), value), False, value)
        for value in ("cd", "cda", "cd" + "a" * 28):
            self.assertIs(accepts_contrary(DOC, "abb", ("ab", "b"), value), True, value)


class Wrong(unittest.TestCase):
    wrong = ((0, "words", BAD_LISTS), (1, "text", BAD_TEXTS), (2, "row", NO_ROWS))

    def test_points_7_and_63(self):
        for function in (is_certain, first_contrary):
            for good in ((), ("ab",), ("bcd",) * 40):
                check_errors(self, function, (DOC, "abb", good), self.wrong)
                for value in ({}, {"a"}, 1.5, ({},), ("a", b"b")):
                    self.assertEqual(helpers.told_name(self, function, (DOC, "abb", value)), "row")

    def test_points_7_and_63_judge(self):
        for rest in ("cd", None, 3, ["cd"]):
            check_errors(self, accepts_contrary, (DOC, "abb", ("ab", "b"), rest), self.wrong)


class Repeating(unittest.TestCase):
    def test_point_2(self):
        for row in (("ab",), ("ab", "b"), ()):
            for function in (is_certain, first_contrary):
                helpers.check_pure(self, function, DOC, "abb", row)
            for rest in ("cd", ["cd"], None):
                helpers.check_pure(self, accepts_contrary, DOC, "abb", row, rest)

    def test_point_3_kinds(self):
        helpers.check_kind(self, str, first_contrary(DOC, "abb", ("ab", "b")))
        helpers.check_kind(self, bool, is_certain(EIGHT, "ab", ()))


if __name__ == "__main__":
    unittest.main()
