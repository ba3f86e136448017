"""Tests of greedycuts.pairs: points 2, 7, 8, 85, 86 and 97."""

import unittest

from greedycuts.pairs import pairs_of, steps_from
from tests import helpers
from tests.helpers import (
    ALL_AS, BAD_LISTS, DEAR, DOC, EIGHT, LETTERS_ONLY, LISTS, LONG, ONE, SMALL, THREE_LETTERS, TWO_LETTERS,
    check_errors,
)

MANY_LISTS = (*LISTS, LETTERS_ONLY, *TWO_LETTERS, *THREE_LETTERS)


def cases():
    """Word lists with their pairs and letters."""
    for words in MANY_LISTS:
        for held, tail in helpers.slow_pairs(words):
            for letter in helpers.texts_of(words, 1)[1:]:
                yield words, held, tail, letter


class Pairs(unittest.TestCase):
    def test_point_86_pairs(self):
        for words in MANY_LISTS:
            self.assertEqual(pairs_of(words), tuple(sorted(helpers.slow_pairs(words))))

    def test_point_85_texts_with_their_cuts_lead_to_pairs(self):
        for words in (SMALL, DEAR, LONG, ALL_AS, *TWO_LETTERS[::5]):
            begun = [word[:many] for word, _ in words for many in range(len(word))]
            reached = {
                (helpers.read_slowly(words, "", text + tail)[1], tail)
                for text in helpers.texts_of(words, 5) for tail in begun
            }
            self.assertEqual(set(pairs_of(words)), reached)

    def test_edges(self):
        self.assertEqual((pairs_of(ONE), pairs_of(LETTERS_ONLY)), ((("", ""),), (("", ""),)))
        self.assertEqual(pairs_of((("a", 1), ("aaaa", 1))), tuple(
            (held, tail) for held in ("", "a", "aa", "aaa") for tail in ("", "a", "aa", "aaa")
        ))
        for words in MANY_LISTS:
            self.assertEqual(pairs_of(words)[0], ("", ""))

    def test_costs_do_not_matter_for_the_pairs(self):
        for words in TWO_LETTERS:
            self.assertEqual(pairs_of(words), pairs_of(tuple((word, 9) for word, _ in words)))


class Steps(unittest.TestCase):
    def test_point_86_steps(self):
        for words, held, tail, letter in cases():
            found = steps_from(words, held, tail, letter)
            self.assertEqual(found, helpers.slow_steps(words, held, tail, letter))
            self.assertLessEqual(len(found), 2)
            for step in found:
                self.assertIn(step[:2], pairs_of(words))

    def test_one_way_two_ways_and_none(self):
        self.assertEqual(steps_from(DEAR, "a", "", "a"), [("", "", 9, 1), ("", "a", 9, 0)])
        self.assertEqual(steps_from(DEAR, "a", "a", "a"), [("", "", 9, 9)])
        self.assertEqual(steps_from(DOC, "", "", "b"), [("b", "", 0, 1), ("b", "b", 0, 0)])
        self.assertEqual(steps_from(DOC, "b", "b", "a"), [])
        self.assertEqual(steps_from(DOC, "b", "b", "c"), [("bc", "bc", 0, 0)])
        self.assertEqual(steps_from(DOC, "bc", "bc", "d"), [("", "", 1, 1)])
        self.assertEqual(steps_from(DOC, "bc", "", "a"), [("a", "", 2, 1), ("a", "a", 2, 0)])
        self.assertEqual(steps_from(ALL_AS, "aaa", "aaa", "a"), [("", "", 5, 5)])
        self.assertEqual(steps_from(ALL_AS, "aaa", "a", "a"), [("", "", 5, 9), ("", "aa", 5, 0)])

    def test_edges(self):
        self.assertEqual(steps_from(ONE, "", "", "z"), [("", "", 9, 9)])
        self.assertEqual(steps_from(LETTERS_ONLY, "", "", "h"), [("", "", 8, 8)])
        self.assertEqual(steps_from(EIGHT, "bbb", "bbb", "a"), [("", "", 6, 6)])
        self.assertEqual(steps_from(EIGHT, "bbb", "bbb", "b"), [])


class Wrong(unittest.TestCase):
    words = (0, "words", BAD_LISTS)
    letter = (3, "letter", (None, True, 1, "", "z", "A", "ab", "bcd", " ", (), ("a",), ["a"], "a" * 40))

    def test_points_7_and_97_words(self):
        check_errors(self, pairs_of, (DOC,), (self.words,))

    def test_points_7_and_97_steps(self):
        no_strings = (None, True, False, 0, "z", "A", "ab", "bcd", "bb", "abcd", "a" * 40, (), ("a",), ["a"])
        # The last ones are beginnings of words, but make no pair with what is held.
        for good, apart in (
            (("a", "", "a"), ("b", "bc")), (("a", "a", "b"), ("b", "bc")), (("bc", "", "d"), ("a", "b")),
            (("b", "b", "c"), ("a", "bc")),
        ):
            no_tails = (2, "tail", (*no_strings, *apart))
            check_errors(self, steps_from, (DOC, *good), (self.words, (1, "held", no_strings), no_tails, self.letter))
        self.assertEqual(helpers.told_name(self, steps_from, (DOC, "", "a", "a")), "tail")

    def test_point_97_other_kinds(self):
        for value in ({}, {"a"}, 1.5, b"a"):
            self.assertEqual(helpers.told_name(self, steps_from, (DOC, value, "", "a")), "held")
            self.assertEqual(helpers.told_name(self, steps_from, (DOC, "", value, "a")), "tail")
            self.assertEqual(helpers.told_name(self, steps_from, (DOC, "", "", value)), "letter")


class Repeating(unittest.TestCase):
    def test_point_2(self):
        helpers.check_pure(self, pairs_of, DOC)
        for letter in "abcd":
            helpers.check_pure(self, steps_from, DOC, "bc", "bc", letter)

    def test_point_3_kinds(self):
        helpers.check_kind(self, tuple, pairs_of(DOC))
        helpers.check_kind(self, tuple, pairs_of(DOC)[0])
        for found in (steps_from(DEAR, "a", "", "a"), steps_from(DOC, "b", "b", "a")):
            helpers.check_kind(self, list, found)
        helpers.check_kind(self, tuple, steps_from(DEAR, "a", "", "a")[0])


if __name__ == "__main__":
    unittest.main()
