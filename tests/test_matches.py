"""Tests of greedycuts.matches: points 2, 7, 9, 10, 12 to 16, 18, 19 and 20."""

import unittest

from greedycuts.cuts import count_cuts
from greedycuts.lists import reversed_list
from greedycuts.matches import (
    free_indexes, longest_at, longest_ending, occurrences, over, words_at, words_ending,
)
from tests import helpers
from tests.helpers import BAD_LISTS, BAD_NUMBERS, BAD_TEXTS, DOC, EIGHT, LISTS, SMALL, check_errors

LONG_TEXTS = ("abab" * 7 + "ba", "abbab" * 6, "bbbaabab" * 3 + "baabba", "a" * 30, "b" * 30)


def cases():
    """Word lists with texts, short ones and ones of 30 letters."""
    for words in (*LISTS, *helpers.TWO_LETTERS[:12]):
        for text in helpers.texts_of(words, 4):
            yield words, text
    for text in LONG_TEXTS:
        yield EIGHT, text


def all_places(words, text):
    """The occurrences, straight from the definition."""
    spelled = dict(words)
    return [
        (i, j) for i in range(len(text) + 1) for j in range(len(text) + 1)
        if i < j and text[i:j] in spelled
    ]


class Occurrences(unittest.TestCase):
    def test_points_12_and_20(self):
        self.assertEqual(occurrences(SMALL, "abb"), [(0, 1), (0, 2), (1, 2), (2, 3)])
        self.assertEqual(occurrences(SMALL, ""), [])
        for words, text in cases():
            self.assertEqual(occurrences(words, text), all_places(words, text))

    def test_point_16_reversed(self):
        for words, text in cases():
            many = len(text)
            turned = sorted((many - j, many - i) for i, j in occurrences(words, text))
            self.assertEqual(occurrences(reversed_list(words), text[::-1]), turned)

    def test_point_18_parts(self):
        for words in (DOC, SMALL, EIGHT):
            text = "abbabcd" if words == DOC else "abbabaab"
            for i in range(len(text) + 1):
                for j in range(i, len(text) + 1):
                    inside = [(p - i, q - i) for p, q in occurrences(words, text) if i <= p and q <= j]
                    self.assertEqual(occurrences(words, text[i:j]), inside)


class AtAnIndex(unittest.TestCase):
    def test_points_10_and_13_beginning(self):
        for words, text in cases():
            for index in range(len(text)):
                lengths = [j - i for i, j in all_places(words, text) if i == index]
                expected = tuple(text[index:index + many] for many in sorted(lengths))
                self.assertEqual(words_at(words, text, index), expected)
                self.assertEqual(longest_at(words, text, index), expected[-1])
                self.assertEqual(expected[0], text[index])

    def test_points_10_and_13_ending(self):
        for words, text in cases():
            for index in range(1, len(text) + 1):
                lengths = [j - i for i, j in all_places(words, text) if j == index]
                expected = tuple(text[index - many:index] for many in sorted(lengths))
                self.assertEqual(words_ending(words, text, index), expected)
                self.assertEqual(longest_ending(words, text, index), expected[-1])

    def test_the_shorter_ones_come_first(self):
        self.assertEqual(words_ending(DOC, "abcd", 4), ("d", "bcd"))
        self.assertEqual(words_ending(SMALL, "abb", 2), ("b", "ab"))
        self.assertEqual(words_at(helpers.ALL_AS, "a" * 30, 0), ("a", "aa", "aaa", "aaaa"))
        self.assertEqual(words_at(helpers.ALL_AS, "a" * 30, 28), ("a", "aa"))
        self.assertEqual(words_ending(helpers.ALL_AS, "a" * 30, 30), ("a", "aa", "aaa", "aaaa"))
        self.assertEqual(words_ending(helpers.ALL_AS, "a" * 30, 3), ("a", "aa", "aaa"))


class Over(unittest.TestCase):
    def test_point_14_over(self):
        self.assertEqual(over(SMALL, "abb", 1), [(0, 2)])
        self.assertEqual(over(SMALL, "", 0), [])
        for words, text in cases():
            for index in range(len(text) + 1):
                expected = [(i, j) for i, j in all_places(words, text) if i < index < j]
                self.assertEqual(over(words, text, index), expected)

    def test_points_14_and_20_free(self):
        self.assertEqual(free_indexes(SMALL, "abb"), [0, 2, 3])
        self.assertEqual(free_indexes(SMALL, ""), [0])
        self.assertEqual(free_indexes(helpers.AAA, "a" * 30), [0, 30])
        self.assertEqual(free_indexes(helpers.LETTERS_ONLY, "abcdefgh"), list(range(9)))
        for words, text in cases():
            places = all_places(words, text)
            expected = [k for k in range(len(text) + 1) if not any(i < k < j for i, j in places)]
            self.assertEqual(free_indexes(words, text), expected)

    def test_point_15_cuts_part_by_part(self):
        for words, text in cases():
            for index in free_indexes(words, text):
                product = count_cuts(words, text[:index]) * count_cuts(words, text[index:])
                self.assertEqual(count_cuts(words, text), product)


class Wrong(unittest.TestCase):
    def check(self, function, text, good, edges):
        """Checks all arguments; edges are the numbers nearest to the indexes that are none."""
        wrong = (
            (0, "words", BAD_LISTS), (1, "text", BAD_TEXTS), (2, "index", (*BAD_NUMBERS, *edges)),
        )
        check_errors(self, function, (SMALL, text, good), wrong)

    def test_points_7_and_19_words_and_text(self):
        for function in (occurrences, free_indexes):
            wrong = ((0, "words", BAD_LISTS), (1, "text", BAD_TEXTS))
            check_errors(self, function, (SMALL, "abb"), wrong)

    def test_points_7_and_19_index_other_than_the_last(self):
        for function in (words_at, longest_at):
            self.check(function, "abb", 0, (3, 4))
            self.check(function, "abb", 2, (3, 4))
            self.check(function, "a" * 30, 29, (30,))
            self.assertEqual(helpers.told_name(self, function, (SMALL, "", 0)), "index")

    def test_points_7_and_19_index_other_than_0(self):
        for function in (words_ending, longest_ending):
            self.check(function, "abb", 1, (0, 4))
            self.check(function, "abb", 3, (0, 4))
            self.check(function, "a" * 30, 30, (0, 31))
            self.assertEqual(helpers.told_name(self, function, (SMALL, "", 0)), "index")

    def test_points_7_and_19_index_of_over(self):
        self.check(over, "abb", 0, (4, 5))
        self.check(over, "abb", 3, (4, 5))
        self.check(over, "", 0, (1,))


class Repeating(unittest.TestCase):
    def test_point_2(self):
        for function in (occurrences, free_indexes):
            helpers.check_pure(self, function, DOC, "abcd")
        for function in (words_at, words_ending, longest_at, longest_ending, over):
            helpers.check_pure(self, function, DOC, "abcd", 2)

    def test_point_3_kinds(self):
        for value in (occurrences(DOC, "abcd"), over(DOC, "abcd", 1), free_indexes(DOC, "abcd")):
            helpers.check_kind(self, list, value)
        for value in (words_at(DOC, "abcd", 0), words_ending(DOC, "abcd", 4), occurrences(DOC, "abcd")[0]):
            helpers.check_kind(self, tuple, value)


if __name__ == "__main__":
    unittest.main()
