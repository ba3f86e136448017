"""Tests of greedycuts.cuts: points 2, 7 and 21 to 31."""

import unittest
from itertools import combinations

from greedycuts.cuts import (
    boundaries_of, common_cut, count_cuts, count_with, cut_at, cut_cost, fewest_words, index_of_cut,
    is_cut, is_finer, nth_cut,
)
from greedycuts.lists import reversed_list
from tests import helpers
from tests.helpers import (
    AAA, ALL_AS, BAD_LISTS, BAD_NUMBERS, BAD_TEXTS, DOC, EIGHT, LETTERS_ONLY, LISTS, LONG, ONE, SMALL, check_errors,
)

THIRTY = "a" * 30
# The number of the cuts of 30 letters a into words of one to four letters.
MANY = 201061985
# What is no cut of abcd.
NO_CUTS = (
    None, True, 0, "", "abcd", (), ["a", "bcd"], ("a", "b"), ("a", "bcd", ""), ("", "a", "bcd"), ("abcd",),
    ("a", "bc", "d"), ("bcd", "a"), ("a", "bcd", "a"), ("a", None), ("a", 1), ("a", ["bcd"]), ("a", ("bcd",)),
    (("a", "bcd"),), ("a", True), (None,), (1, 2, 3, 4), ("A", "bcd"), ("a",) * 1000,
)


def cases():
    """Word lists with texts whose cuts can be listed."""
    for words in (*LISTS, *helpers.TWO_LETTERS[::4]):
        for text in helpers.texts_of(words, 4):
            yield words, text
    for words, text in ((EIGHT, "ababbbaabab"), (LONG, "abbabbabba"), (ALL_AS, "a" * 9), (DOC, "abcdbcdab")):
        yield words, text


class WhatIsACut(unittest.TestCase):
    def test_points_6_and_21(self):
        for words, text in cases():
            for cut in helpers.all_cuts(words, text):
                self.assertIs(is_cut(words, text, cut), True)
                self.assertEqual(cut_cost(words, text, cut), helpers.cost(words, cut))
                self.assertIs(is_cut(words, text + words[0][0], cut), False)

    def test_point_21_the_empty_text(self):
        for words in LISTS:
            self.assertIs(is_cut(words, "", ()), True)
            self.assertIs(is_cut(words, "", ("",)), False)
            self.assertEqual((count_cuts(words, ""), cut_cost(words, "", ())), (1, 0))
            self.assertEqual((nth_cut(words, "", 0), index_of_cut(words, "", ())), ((), 0))

    def test_point_21_the_letters(self):
        for words, text in cases():
            self.assertIs(is_cut(words, text, tuple(text)), True)
            self.assertEqual(nth_cut(words, text, 0), tuple(text))

    def test_point_21_each_word_costs_as_often_as_it_stands(self):
        self.assertEqual(cut_cost(ALL_AS, "a" * 30, ("aa",) * 15), 135)
        self.assertEqual(cut_cost(ALL_AS, "a" * 30, ("a", "aa", "aaa", "aaaa") * 3), 51)

    def test_what_is_none(self):
        for value in NO_CUTS:
            self.assertIs(is_cut(DOC, "abcd", value), False, value)
            self.assertIsNone(index_of_cut(DOC, "abcd", value), value)
        for value in ({}, {"a": "bcd"}, {"abcd"}, 1.0, ("a", b"bcd"), ({}, "bcd"), ("a", {"bcd"})):
            self.assertIs(is_cut(DOC, "abcd", value), False, value)
            self.assertIsNone(index_of_cut(DOC, "abcd", value), value)


class Order(unittest.TestCase):
    def test_point_22_every_index(self):
        for words, text in cases():
            cuts = helpers.all_cuts(words, text)
            self.assertEqual(count_cuts(words, text), len(cuts))
            for index, cut in enumerate(cuts):
                self.assertEqual(nth_cut(words, text, index), cut)
                self.assertEqual(index_of_cut(words, text, cut), index)

    def test_point_31(self):
        expected = [("a", "b", "c", "d"), ("a", "bcd"), ("ab", "c", "d")]
        self.assertEqual([nth_cut(DOC, "abcd", index) for index in range(count_cuts(DOC, "abcd"))], expected)

    def test_points_22_and_29_without_listing(self):
        self.assertEqual(count_cuts(ALL_AS, THIRTY), MANY)
        self.assertEqual(nth_cut(ALL_AS, THIRTY, 0), ("a",) * 30)
        self.assertEqual(nth_cut(ALL_AS, THIRTY, 1), ("a",) * 28 + ("aa",))
        self.assertEqual(nth_cut(ALL_AS, THIRTY, MANY - 1), ("aaaa",) * 7 + ("aa",))
        self.assertEqual(index_of_cut(ALL_AS, THIRTY, ("aaaa",) * 7 + ("aa",)), MANY - 1)
        for index in range(0, MANY, 1234567):
            cut = nth_cut(ALL_AS, THIRTY, index)
            self.assertEqual("".join(cut), THIRTY)
            self.assertEqual(index_of_cut(ALL_AS, THIRTY, cut), index)
            after = nth_cut(ALL_AS, THIRTY, index + 1)
            differing = [(len(a), len(b)) for a, b in zip(cut, after) if a != b]
            self.assertLess(*differing[0])


class Counting(unittest.TestCase):
    def test_point_24(self):
        for words, text in cases():
            lengths = [len(cut) for cut in helpers.all_cuts(words, text)]
            self.assertEqual(fewest_words(words, text), min(lengths))
            for many in (*range(len(text) + 2), 30):
                self.assertEqual(count_with(words, text, many), lengths.count(many))

    def test_point_24_long_texts(self):
        self.assertEqual(fewest_words(ALL_AS, THIRTY), 8)
        self.assertEqual((count_with(ALL_AS, THIRTY, 30), count_with(ALL_AS, THIRTY, 7)), (1, 0))
        self.assertEqual((count_with(ALL_AS, THIRTY, 29), count_with(ALL_AS, THIRTY, 8)), (29, 36))
        self.assertEqual(sum(count_with(ALL_AS, THIRTY, many) for many in range(31)), MANY)
        self.assertEqual((fewest_words(DOC, ""), count_with(DOC, "", 0), count_with(DOC, "", 1)), (0, 1, 0))

    def test_point_25_two_texts(self):
        for words in (DOC, SMALL, LONG, AAA):
            spelled = [word for word, _ in words]
            for one in helpers.texts_of(words, 3):
                for other in ("", "a", "b", "bb", "ba", "bcd", "d", "aab"):
                    if not set(other) <= set(spelled):
                        continue
                    joined = count_cuts(words, one + other)
                    apart = count_cuts(words, one) * count_cuts(words, other)
                    across = any(
                        one.endswith(word[:k]) and other.startswith(word[k:])
                        for word in spelled for k in range(1, len(word))
                    )
                    self.assertEqual(joined == apart, not across)
                    self.assertGreaterEqual(joined, apart)

    def test_point_26_reversed(self):
        for words, text in cases():
            turned = reversed_list(words)
            self.assertEqual(count_cuts(turned, text[::-1]), count_cuts(words, text))
            for many in range(len(text) + 1):
                self.assertEqual(count_with(turned, text[::-1], many), count_with(words, text, many))

    def test_point_27_bounds(self):
        for many in range(1, 5):
            self.assertEqual(count_cuts(ALL_AS, "a" * many), 2 ** (many - 1))
        self.assertEqual(count_cuts(ALL_AS, "aaaaa"), 15)
        for words, text in cases():
            if text:
                longer = any(len(word) > 1 and word in text for word, _ in words)
                self.assertEqual(count_cuts(words, text) == 1, not longer)
                self.assertLessEqual(count_cuts(words, text), 2 ** (len(text) - 1))
        self.assertEqual(count_cuts(LETTERS_ONLY, "abcdefgh" * 3), 1)
        self.assertEqual(count_cuts(ONE, "z" * 30), 1)


class Boundaries(unittest.TestCase):
    def test_point_23(self):
        for words, text in cases():
            cuts = {helpers.boundaries(cut): cut for cut in helpers.all_cuts(words, text)}
            for told, cut in cuts.items():
                self.assertEqual(boundaries_of(words, text, cut), told)
            if len(text) > 7:
                continue
            for many in range(max(1, len(text))):
                for told in combinations(range(1, len(text)), many):
                    self.assertEqual(cut_at(words, text, told), cuts.get(told))

    def test_point_23_edges(self):
        self.assertEqual((boundaries_of(DOC, "", ()), cut_at(DOC, "", ())), ((), ()))
        self.assertEqual((boundaries_of(DOC, "a", ("a",)), cut_at(DOC, "a", ())), ((), ("a",)))
        self.assertEqual(cut_at(DOC, "bcd", ()), ("bcd",))
        self.assertIsNone(cut_at(DOC, "bc", ()))
        self.assertEqual(boundaries_of(ALL_AS, THIRTY, tuple(THIRTY)), tuple(range(1, 30)))
        self.assertEqual(cut_at(ALL_AS, THIRTY, tuple(range(1, 30))), tuple(THIRTY))

    def test_point_28(self):
        for words, text in cases():
            cuts = helpers.all_cuts(words, text)[:24]
            made = {helpers.boundaries(cut): cut for cut in helpers.all_cuts(words, text)}
            for one in cuts:
                for other in cuts:
                    first, second = set(helpers.boundaries(one)), set(helpers.boundaries(other))
                    self.assertIs(is_finer(words, text, one, other), first > second)
                    both = made.get(tuple(sorted(first & second)))
                    self.assertEqual(common_cut(words, text, one, other), both)

    def test_point_28_edges(self):
        self.assertIs(is_finer(DOC, "", (), ()), False)
        self.assertEqual(common_cut(DOC, "", (), ()), ())
        self.assertIs(is_finer(ALL_AS, THIRTY, tuple(THIRTY), ("aa",) * 15), True)
        self.assertEqual(common_cut(ALL_AS, THIRTY, tuple(THIRTY), ("aa",) * 15), ("aa",) * 15)
        self.assertEqual(common_cut(ALL_AS, "aaaa", ("a", "aaa"), ("aaa", "a")), ("aaaa",))
        self.assertIsNone(common_cut(AAA, "aaaa", ("a", "aaa"), ("aaa", "a")))


class Wrong(unittest.TestCase):
    words = (0, "words", BAD_LISTS)
    text = (1, "text", BAD_TEXTS)

    def test_points_7_and_30_words_and_text(self):
        for function in (count_cuts, fewest_words):
            check_errors(self, function, (DOC, "abcd"), (self.words, self.text))

    def test_points_7_and_30_values_that_are_judged(self):
        for function in (is_cut, index_of_cut):
            check_errors(self, function, (DOC, "abcd", ("a", "bcd")), (self.words, self.text))
            for value in NO_CUTS:
                self.assertEqual(helpers.told_name(self, function, ((), "abcd", value)), "words")
                self.assertEqual(helpers.told_name(self, function, (DOC, "z", value)), "text")

    def test_points_7_and_30_cut(self):
        for function in (cut_cost, boundaries_of):
            wrong = (self.words, self.text, (2, "cut", NO_CUTS))
            check_errors(self, function, (DOC, "abcd", ("a", "bcd")), wrong)

    def test_points_7_and_30_one_and_other(self):
        for function in (is_finer, common_cut):
            wrong = (self.words, self.text, (2, "one", NO_CUTS), (3, "other", NO_CUTS))
            check_errors(self, function, (DOC, "abcd", ("a", "bcd"), ("ab", "c", "d")), wrong)

    def test_points_7_and_30_index(self):
        wrong = (self.words, self.text, (2, "index", (*BAD_NUMBERS, 3, 4)))
        check_errors(self, nth_cut, (DOC, "abcd", 0), wrong)
        check_errors(self, nth_cut, (DOC, "abcd", 2), wrong)
        check_errors(self, nth_cut, (DOC, "", 0), (self.words, self.text, (2, "index", (*BAD_NUMBERS, 1))))
        self.assertEqual(helpers.told_name(self, nth_cut, (ALL_AS, THIRTY, MANY)), "index")

    def test_points_7_and_30_many(self):
        for good in (0, 4, 30):
            wrong = (self.words, self.text, (2, "many", BAD_NUMBERS))
            check_errors(self, count_with, (DOC, "abcd", good), wrong)

    def test_points_7_and_30_boundaries(self):
        wrong = (
            None, True, 1, "", "12", [], [1], (0,), (4,), (0, 1), (1, 4), (1, 1), (2, 1), (1, 2, 2), (True,),
            (False,), (1, True), ("1",), (None,), ((1,),), (1, (2,)), (-1,), (1, None), (1, 2, 3, 4), (10 ** 40,),
        )
        for good in ((), (1,), (1, 2, 3), (3,)):
            check_errors(self, cut_at, (DOC, "abcd", good), (self.words, self.text, (2, "boundaries", wrong)))
        for text in ("", "a"):
            for value in ((0,), (1,), (-1,), []):
                self.assertEqual(helpers.told_name(self, cut_at, (DOC, text, value)), "boundaries")


class Repeating(unittest.TestCase):
    def test_point_2(self):
        one, other = ("a", "bcd"), ("ab", "c", "d")
        for function in (count_cuts, fewest_words):
            helpers.check_pure(self, function, DOC, "abcd")
        for function in (is_cut, cut_cost, boundaries_of, index_of_cut):
            helpers.check_pure(self, function, DOC, "abcd", one)
        helpers.check_pure(self, is_cut, DOC, "abcd", ["a", "bcd"])
        helpers.check_pure(self, index_of_cut, DOC, "abcd", [["a"]])
        for function in (is_finer, common_cut):
            helpers.check_pure(self, function, DOC, "abcd", one, other)
        for function in (nth_cut, count_with):
            helpers.check_pure(self, function, DOC, "abcd", 2)
        helpers.check_pure(self, cut_at, DOC, "abcd", (1,))

    def test_point_3_kinds(self):
        for value in (nth_cut(DOC, "abcd", 1), boundaries_of(DOC, "abcd", ("a", "bcd")), cut_at(DOC, "abcd", (1,))):
            helpers.check_kind(self, tuple, value)
        helpers.check_kind(self, tuple, common_cut(DOC, "ab", ("a", "b"), ("ab",)))
        for value in (count_cuts(DOC, "a"), count_with(DOC, "a", 1), fewest_words(DOC, "a")):
            helpers.check_kind(self, int, value)


if __name__ == "__main__":
    unittest.main()
