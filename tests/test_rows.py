"""Tests of greedycuts.rows: points 2, 7, 35 to 39 and 42."""

import unittest

from greedycuts.longest import longest_match
from greedycuts.rows import canonical, count_texts, first_conflict, followers, is_canonical
from tests import helpers
from tests.helpers import (
    AAA, ALL_AS, BAD_LISTS, DOC, EIGHT, LETTERS_ONLY, LISTS, LONG, ONE, SMALL, TWO_LETTERS, check_errors, conflict,
)

# What is no row of words of DOC.
NO_ROWS = (
    None, True, 0, "", "a", "ab", [], ["a"], ("",), ("abcd",), ("a", "bc"), ("a", None), ("a", 1), ("a", True),
    ("a", ["b"]), ("a", ("b",)), (("a",),), ("A",), ("z",), ("a", ""), ("a",) * 31, ("bcd",) * 40, ("a",) * 1000,
)
# What is no integer from 0 to 20.
NO_NUMBERS = (None, True, False, -1, 21, 30, "1", "", (), (1,), [1], 10 ** 40)


def some_rows():
    """Word lists with rows."""
    for words in (*LISTS, *TWO_LETTERS[::4]):
        for row in helpers.rows_of(words, 3):
            yield words, row


class Canonical(unittest.TestCase):
    def test_points_35_and_36(self):
        for words, row in some_rows():
            text = "".join(row)
            self.assertEqual(canonical(words, row), longest_match(words, text))
            self.assertIs(is_canonical(words, row), longest_match(words, text) == row)
            self.assertEqual(first_conflict(words, row), conflict(words, row))
            self.assertIs(is_canonical(words, row), first_conflict(words, row) is None)

    def test_point_35_the_empty_row(self):
        for words in LISTS:
            self.assertIs(is_canonical(words, ()), True)
            self.assertIsNone(first_conflict(words, ()))
            self.assertEqual(canonical(words, ()), ())

    def test_point_35_texts_of_any_length(self):
        row = ("aaaa",) * 30
        self.assertIs(is_canonical(ALL_AS, row), True)
        self.assertEqual(canonical(ALL_AS, row), row)
        self.assertEqual(canonical(ALL_AS, ("aaa",) * 30), ("aaaa",) * 22 + ("aa",))
        self.assertEqual(first_conflict(ALL_AS, ("aaaa",) * 28 + ("aaa", "a")), 28)
        self.assertEqual(first_conflict(ALL_AS, ("a",) * 30), 0)
        self.assertEqual(first_conflict(DOC, ("bcd",) * 28 + ("a", "bcd")), 28)

    def test_point_37_parts(self):
        for words, row in some_rows():
            parts = [row[i:j] for i in range(len(row) + 1) for j in range(i, len(row) + 1)]
            if is_canonical(words, row):
                self.assertTrue(all(is_canonical(words, part) for part in parts))
            longest = max(len(word) for word, _ in words)
            short = [part for part in parts if len(part) <= longest]
            self.assertEqual(is_canonical(words, row), all(is_canonical(words, part) for part in short))


class Followers(unittest.TestCase):
    def test_point_38(self):
        self.assertEqual(followers(SMALL, "a"), ("a", "ab"))
        self.assertEqual(followers(ONE, "z"), ("z",))
        self.assertEqual(followers(AAA, "aa"), ())
        self.assertEqual(followers(AAA, "aaa"), ("a", "aa", "aaa"))
        for words in (*LISTS, *TWO_LETTERS, LETTERS_ONLY):
            for word, _ in words:
                expected = [other for other, _ in words if conflict(words, (word, other)) is None]
                self.assertEqual(followers(words, word), tuple(expected))


class Counting(unittest.TestCase):
    def test_point_39_against_all_texts(self):
        for words in (*LISTS, *TWO_LETTERS[::2]):
            most = 4 if len(words) > 4 else 6
            lengths = {}
            for text in helpers.texts_of(words, most):
                pair = (len(text), len(longest_match(words, text)))
                lengths[pair] = lengths.get(pair, 0) + 1
            for letters in range(most + 1):
                for many in range(most + 2):
                    self.assertEqual(count_texts(words, letters, many), lengths.get((letters, many), 0))

    def test_point_39_edges(self):
        for words in LISTS:
            self.assertEqual((count_texts(words, 0, 0), count_texts(words, 0, 1)), (1, 0))
            self.assertEqual((count_texts(words, 0, 20), count_texts(words, 1, 0)), (0, 0))
            self.assertEqual(count_texts(words, 20, 0), 0)

    def test_point_39_without_listing(self):
        self.assertEqual(count_texts(LETTERS_ONLY, 20, 20), 8 ** 20)
        self.assertEqual([count_texts(ALL_AS, 20, many) for many in (4, 5, 6)], [0, 1, 0])
        for words in (DOC, SMALL, EIGHT, LONG):
            letters = sum(1 for word, _ in words if len(word) == 1)
            self.assertEqual(sum(count_texts(words, 20, many) for many in range(21)), letters ** 20)

    def test_point_39_one_word_of_two_letters(self):
        # Texts of a and b with k times ab have 20 - k words; ab stands k times in C(21, 2k + 1) of them.
        self.assertEqual(count_texts(SMALL, 20, 20), 21)
        self.assertEqual(count_texts(SMALL, 20, 19), 1330)
        self.assertEqual(count_texts(SMALL, 20, 10), 1)


class Wrong(unittest.TestCase):
    words = (0, "words", BAD_LISTS)

    def test_points_7_and_42_row(self):
        for function in (is_canonical, first_conflict, canonical):
            for good in ((), ("a", "bcd"), ("bcd",) * 30):
                check_errors(self, function, (DOC, good), (self.words, (1, "row", NO_ROWS)))
            for value in ({}, {"a"}, 1.5, ({},), ("a", b"b")):
                self.assertEqual(helpers.told_name(self, function, (DOC, value)), "row")

    def test_points_7_and_42_word(self):
        wrong = (None, True, 0, "", "z", "A", "bc", "abcd", (), ("a",), ["a"], "a" * 50)
        check_errors(self, followers, (DOC, "ab"), (self.words, (1, "word", wrong)))

    def test_points_7_and_42_letters_and_many(self):
        wrong = (self.words, (1, "letters", NO_NUMBERS), (2, "many", NO_NUMBERS))
        for good in ((3, 2), (0, 0), (20, 20), (0, 20)):
            check_errors(self, count_texts, (SMALL, *good), wrong)


class Repeating(unittest.TestCase):
    def test_point_2(self):
        for function in (is_canonical, first_conflict, canonical):
            helpers.check_pure(self, function, DOC, ("c", "a", "bcd"))
        helpers.check_pure(self, followers, DOC, "a")
        helpers.check_pure(self, count_texts, DOC, 5, 3)

    def test_point_3_kinds(self):
        helpers.check_kind(self, tuple, canonical(DOC, ("a", "bcd")))
        helpers.check_kind(self, tuple, followers(DOC, "a"))
        helpers.check_kind(self, int, first_conflict(DOC, ("a", "bcd")))
        helpers.check_kind(self, int, count_texts(DOC, 2, 1))


if __name__ == "__main__":
    unittest.main()
