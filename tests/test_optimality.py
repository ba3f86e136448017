"""Tests of greedycuts.optimality: points 2, 7, 8 and 65 to 74."""

import unittest
from itertools import product

from greedycuts import costs
from greedycuts.lists import reversed_list
from greedycuts.longest import match_from_end
from greedycuts.optimality import (
    always_best, always_best_from_end, counterexample, counterexample_from_end, greatest_test_waste, test_texts, waste,
    wasteful,
)
from tests import helpers
from tests.helpers import (
    AAA, ALL_AS, BAD_LISTS, BAD_TEXTS, DEAR, DOC, EIGHT, ENDS, LETTERS_ONLY, LISTS, LONG, ONE, THREE_LETTERS,
    TWO_LETTERS, check_errors, greedy, least,
)

OF_LIST = (
    test_texts, wasteful, greatest_test_waste, always_best, counterexample, always_best_from_end,
    counterexample_from_end,
)
# Longest match is always best for some of these and not for others.
MANY_LISTS = (*LISTS, LETTERS_ONLY, *TWO_LETTERS, *THREE_LETTERS)


def wasted(words, text):
    """The waste of a text, by the plain ways."""
    return helpers.cost(words, greedy(words, text)) - least(words, text)


def wasted_from_end(words, text):
    """How much more longest match from the end costs than needed, by that of the reversed text."""
    return wasted(helpers.turned(words), text[::-1])


def all_test_texts(words):
    """The test texts, by their definition, in order by length."""
    spelled = [word for word, _ in words]
    return helpers.by_length({
        one + other[index:] for one in spelled for other in spelled for index in range(1, len(other) + 1)
    })


class Waste(unittest.TestCase):
    def test_points_65_and_72(self):
        for words in (*LISTS, *TWO_LETTERS[::4]):
            for text in helpers.texts_of(words, 4):
                self.assertEqual(waste(words, text), wasted(words, text))
                self.assertEqual(waste(words, text), costs.waste(words, text))
                self.assertGreaterEqual(waste(words, text), 0)

    def test_edges(self):
        for words in LISTS:
            self.assertEqual(waste(words, ""), 0)
        self.assertEqual([waste(DEAR, "a" * many) for many in (1, 2, 4, 29, 30)], [0, 7, 14, 98, 105])
        self.assertEqual((waste(ONE, "z" * 30), waste(DOC, "abcd" * 7)), (0, 7))


class TestTexts(unittest.TestCase):
    def test_point_66(self):
        for words in MANY_LISTS:
            found = test_texts(words)
            self.assertEqual(found, all_test_texts(words))
            self.assertLessEqual(max(len(text) for text in found), 7)

    def test_point_66_edges(self):
        self.assertEqual((test_texts(ONE), test_texts(LETTERS_ONLY)), (["z"], list("abcdefgh")))
        self.assertEqual(test_texts(ALL_AS), ["a" * many for many in range(1, 8)])
        self.assertEqual(test_texts((("a", 1), ("ab", 1), ("b", 1))), ["a", "b", "ab", "bb", "abb"])

    def test_point_72_greatest_waste(self):
        for words in MANY_LISTS:
            self.assertEqual(greatest_test_waste(words), max(wasted(words, text) for text in all_test_texts(words)))
        self.assertEqual((greatest_test_waste(DEAR), greatest_test_waste(DOC), greatest_test_waste(ONE)), (7, 1, 0))

    def test_wasteful(self):
        for words in MANY_LISTS:
            self.assertEqual(wasteful(words), [text for text in all_test_texts(words) if wasted(words, text) > 0])


class AlwaysBest(unittest.TestCase):
    def test_points_67_and_68_against_all_texts(self):
        for words in (*TWO_LETTERS, AAA, ALL_AS, DEAR, LONG):
            bad = [text for text in helpers.texts_of(words, 7) if wasted(words, text) > 0]
            self.assertIs(always_best(words), not bad)
            self.assertEqual(counterexample(words), bad[0] if bad else None)
            fewest = [text for text in bad if len(text) == len(bad[0])]
            self.assertEqual(wasteful(words)[:len(fewest)], fewest)

    def test_points_67_and_68_three_letters(self):
        for words in (*THREE_LETTERS, DOC, ENDS, EIGHT):
            bad = [text for text in helpers.texts_of(words, 5) if wasted(words, text) > 0]
            told = counterexample(words)
            self.assertIs(always_best(words), told is None)
            if told is None or len(told) <= 5:
                self.assertEqual(told, bad[0] if bad else None)
            else:
                self.assertEqual((bad, wasted(words, told) > 0), ([], True))

    def test_point_67_a_long_counterexample(self):
        words = (("a", 1), ("aaab", 2), ("b", 1), ("bccc", 1), ("c", 1))
        self.assertEqual((counterexample(words), wasteful(words)), ("aaabccc", ["aaabccc"]))
        # With another word a shorter text has a waste.
        some = (("a", 1), ("aaab", 9), ("aab", 1), ("b", 1), ("bccc", 1), ("c", 1))
        self.assertEqual(counterexample(some), "aaab")

    def test_point_69_against_all_texts(self):
        for words in (*TWO_LETTERS, AAA, ALL_AS, DEAR, LONG):
            bad = [text for text in helpers.texts_of(words, 7) if wasted_from_end(words, text) > 0]
            self.assertIs(always_best_from_end(words), not bad)
            self.assertEqual(counterexample_from_end(words), bad[0] if bad else None)

    def test_point_69_reversed_lists(self):
        for words in MANY_LISTS:
            self.assertIs(always_best_from_end(words), always_best(reversed_list(words)))
            told = counterexample_from_end(words)
            self.assertIs(always_best_from_end(words), told is None)
            if told is not None:
                row = match_from_end(words, told)
                self.assertGreater(helpers.cost(words, row), least(words, told))

    def test_point_69_the_first_one_is_told_as_it_is_read(self):
        # Both texts of two letters have a waste; reversed they come in the other order.
        words = (("a", 1), ("ab", 9), ("b", 1), ("ba", 9))
        self.assertEqual((counterexample(words), counterexample_from_end(words)), ("ab", "ab"))
        words = (("a", 1), ("b", 1), ("bc", 9), ("c", 1), ("ca", 9))
        self.assertEqual((counterexample(words), counterexample_from_end(words)), ("bc", "bc"))
        self.assertEqual(counterexample(reversed_list(words)), "ac")

    def test_point_70(self):
        for words in MANY_LISTS:
            own = all(least(words, word) == price for word, price in words)
            if always_best(words):
                self.assertTrue(own)
            ends = {word[index:] for word, _ in words for index in range(1, len(word))}
            begun = {word[:index] for word, _ in words for index in range(1, len(word))}
            if own and not ends & begun:
                self.assertIs(always_best(words), True)
        self.assertIs(always_best((("a", 1), ("aa", 1))), True)

    def test_point_71(self):
        for letters, chosen in product(("ab", "abc"), product((False, True), repeat=6)):
            longer = ("aa", "ab", "ba", "ac", "cb", "ca")
            some = [word for word, take in zip(longer, chosen) if take and set(word) <= set(letters)]
            words = tuple((word, 1) for word in sorted([*letters, *some]))
            if len(words) <= 8:
                self.assertIs(always_best(words), True)
                self.assertIs(always_best_from_end(words), True)

    def test_point_74(self):
        self.assertEqual((always_best(DOC), counterexample(DOC), wasteful(DOC)), (False, "abcd", ["abcd"]))
        self.assertIs(always_best_from_end(DOC), True)
        self.assertIsNone(counterexample_from_end(DOC))
        self.assertEqual((always_best(ENDS), counterexample(ENDS), wasteful(ENDS)), (True, None, []))
        self.assertEqual((always_best_from_end(ENDS), counterexample_from_end(ENDS)), (False, "abcd"))


class Wrong(unittest.TestCase):
    words = (0, "words", BAD_LISTS)

    def test_points_7_and_73(self):
        for good in ("", "abcd", "a" * 30):
            check_errors(self, waste, (DOC, good), (self.words, (1, "text", BAD_TEXTS)))
        for function in OF_LIST:
            check_errors(self, function, (DOC,), (self.words,))


class Repeating(unittest.TestCase):
    def test_point_2(self):
        for words in (DOC, DEAR):
            helpers.check_pure(self, waste, words, "a")
            for function in OF_LIST:
                helpers.check_pure(self, function, words)

    def test_point_3_kinds(self):
        for words in (DOC, ENDS):
            for function in (test_texts, wasteful):
                helpers.check_kind(self, list, function(words))
            for function in (always_best, always_best_from_end):
                helpers.check_kind(self, bool, function(words))
            helpers.check_kind(self, int, greatest_test_waste(words))
        helpers.check_kind(self, str, counterexample(DOC))
        helpers.check_kind(self, int, waste(DOC, "abcd"))


if __name__ == "__main__":
    unittest.main()
