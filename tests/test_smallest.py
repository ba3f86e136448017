"""Tests of greedycuts.smallest: points 2, 3, 7, 8, 119, 120 and 128."""

import unittest
from itertools import product

from greedycuts.longest import longest_match
from greedycuts.smallest import change
from tests import helpers
from tests.helpers import DOC, EIGHT, check_errors, check_kind, check_pure, slow_change

ROWS = [row for many in range(6) for row in product(("a", "b"), repeat=many)]
NO_ROWS = (
    None, True, False, 0, 1, "", "a", "ab", [], ["a"], {}, {"a"}, b"", (None,), (1,), (True,), (b"a",), (("a",),),
    (["a"],), ("a", None), (None, "a"), ("a", "b", 3), ("a", ("b",)), ("a",) * 101, ("",) * 101, (1,) * 100,
    ("a",) * 99 + (None,), ("a",) * 1000,
)


def replaced(row, start, removed, inserted):
    """The row with some strings replaced."""
    return (*row[:start], *inserted, *row[start + removed:])


class Changes(unittest.TestCase):
    def test_point_119_all_short_rows(self):
        for old in ROWS:
            for new in ROWS:
                self.assertEqual(change(old, new), slow_change(old, new), (old, new))

    def test_point_119_by_hand(self):
        self.assertEqual(change(("ab", "c", "d"), ("ab", "d")), (1, 1, ()))
        self.assertEqual(change(("ab", "c", "d"), ("ab", "b", "d")), (1, 1, ("b",)))
        self.assertEqual(change(("a", "b"), ("c", "d", "e")), (0, 2, ("c", "d", "e")))
        self.assertEqual(change(("a", "b", "a"), ("a",)), (1, 2, ()))
        self.assertEqual(change(("a",), ("a", "b", "a")), (1, 0, ("b", "a")))

    def test_point_119_one_string_many_times(self):
        for one in range(8):
            for other in range(8):
                expected = (min(one, other), max(one - other, 0), ("a",) * max(other - one, 0))
                self.assertEqual(change(("a",) * one, ("a",) * other), expected)
        # What is in common at the end is counted behind what is in common at the beginning.
        self.assertEqual(change(("a", "a", "b"), ("a", "b")), (1, 1, ()))
        self.assertEqual(change(("a", "b"), ("a", "a", "b")), (1, 0, ("a",)))
        self.assertEqual(change(("b", "a", "a"), ("b", "a")), (2, 1, ()))
        self.assertEqual(change(("a", "b", "a", "b"), ("a", "b")), (2, 2, ()))

    def test_point_119_empty_and_equal_rows(self):
        self.assertEqual(change((), ()), (0, 0, ()))
        self.assertEqual(change((), ("a", "")), (0, 0, ("a", "")))
        self.assertEqual(change(("a", ""), ()), (0, 2, ()))
        for row in ROWS:
            self.assertEqual(change(row, row), (len(row), 0, ()))

    def test_point_119_strings_of_any_kind(self):
        self.assertEqual(change(("", "A b", "\n"), ("", "\u00e9" * 50, "\n")), (1, 1, ("\u00e9" * 50,)))
        self.assertEqual(change(("ab",), ("a", "b")), (0, 1, ("a", "b")))
        self.assertEqual(change(("",), ("", "")), (1, 0, ("",)))

    def test_point_119_rows_of_100_strings(self):
        row = tuple("abcde" * 20)
        self.assertEqual(change(row, row), (100, 0, ()))
        self.assertEqual(change(row, (*row[:70], "x", *row[71:])), (70, 1, ("x",)))
        self.assertEqual(change(row, ("x",) * 100), (0, 100, ("x",) * 100))
        self.assertEqual(change(row, ()), (0, 100, ()))
        self.assertEqual(change((), row), (0, 0, row))
        self.assertEqual(change(row[1:], row), (0, 0, ("a",)))
        self.assertEqual(change(("a",) * 100, ("a",) * 99), (99, 1, ()))

    def test_point_120_the_new_row_results(self):
        for old in ROWS:
            for new in ROWS:
                self.assertEqual(replaced(old, *change(old, new)), new)

    def test_point_120_no_smaller_replacement(self):
        for old in ROWS[:31]:
            for new in ROWS[:31]:
                _, removed, inserted = change(old, new)
                for start in range(len(old) + 1):
                    for many in range(len(old) - start + 1):
                        put = len(new) - len(old) + many
                        if put >= 0 and replaced(old, start, many, new[start:start + put]) == new:
                            self.assertTrue(many >= removed and put >= len(inserted))

    def test_rows_of_words(self):
        for words in (DOC, EIGHT):
            texts = helpers.texts_of(words, 4)
            for one, other in zip(texts, texts[13:]):
                old, new = longest_match(words, one), longest_match(words, other)
                self.assertEqual(change(old, new), slow_change(old, new))


class Wrong(unittest.TestCase):
    def test_points_7_and_128(self):
        wrong = ((0, "old", NO_ROWS), (1, "new", NO_ROWS))
        for good in (((), ()), (("a",) * 100, ("b",) * 100), (("a",), ("a", "b"))):
            check_errors(self, change, good, wrong)


class Repeating(unittest.TestCase):
    def test_point_2(self):
        for old in ROWS[:20]:
            for new in ROWS[:20]:
                check_pure(self, change, old, new)

    def test_point_3_kinds(self):
        told = change(("a", "b"), ("c", "b"))
        check_kind(self, tuple, told)
        check_kind(self, int, told[0])
        check_kind(self, int, told[1])
        check_kind(self, tuple, told[2])


if __name__ == "__main__":
    unittest.main()
