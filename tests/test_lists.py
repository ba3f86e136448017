"""Tests of greedycuts.lists: points 2 to 9, 11, 16, 17 and 19."""

import unittest
from itertools import product

from greedycuts.errors import BadValue
from greedycuts.lists import (
    beginnings_of, cost_of_word, is_list, is_text, letters_of, reversed_list, with_word, without_word,
)
from tests import helpers
from tests.helpers import BAD_LISTS, BAD_TEXTS, DOC, EIGHT, LETTERS_ONLY, LISTS, ONE, SMALL, check_errors

NO_WORDS = (None, True, 1, "", (), ("a",), ["a"], [], "A", "a ", " a", "1", "\u00e9", "aaaaa", "a" * 99, "\n")
NO_COSTS = (None, True, False, 0, 10, -1, "1", (1,), [1], 10 ** 30)


class WhatIsAList(unittest.TestCase):
    def test_point_5_word_lists(self):
        for words in (*LISTS, LETTERS_ONLY, *helpers.TWO_LETTERS):
            self.assertIs(is_list(words), True, words)

    def test_point_5_edges(self):
        self.assertIs(is_list((("a", 1),)), True)
        self.assertIs(is_list((("z", 9),)), True)
        self.assertEqual(len(EIGHT), 8)
        self.assertIs(is_list((("a", 1), ("aaaa", 1))), True)
        self.assertIs(is_list((("a", 1), ("aaaaa", 1))), False)
        self.assertIs(is_list((("a", 1), ("ab", 1), ("b", 1), ("ba", 1))), True)

    def test_points_3_and_5_what_is_none(self):
        for value in BAD_LISTS:
            self.assertIs(is_list(value), False, value)
        for value in (dict(SMALL), list(SMALL), {"a"}, b"a", 1.0, (("a", 1.0),), ((b"a", 1),)):
            self.assertIs(is_list(value), False, value)

    def test_point_5_every_cost(self):
        for cost in range(-2, 13):
            self.assertIs(is_list((("a", cost),)), 1 <= cost <= 9, cost)


class WhatIsAText(unittest.TestCase):
    def test_points_6_and_9(self):
        for text in ("", "a", "b", "abb", "a" * 30, "ab" * 15):
            self.assertIs(is_text(SMALL, text), True, text)
        for value in (*BAD_TEXTS, "c", "abc", "ab" * 15 + "a", {}, 1.5, b"a", b""):
            self.assertIs(is_text(SMALL, value), False, value)
        self.assertIs(is_text(ONE, "z" * 30), True)
        self.assertIs(is_text(ONE, "z" * 31), False)

    def test_letters_of_longer_words_are_letters(self):
        self.assertIs(is_text(DOC, "dcba"), True)
        self.assertIs(is_text(DOC, "dcbae"), False)


class WhatIsTold(unittest.TestCase):
    def test_point_9_letters(self):
        self.assertEqual(letters_of(DOC), "abcd")
        self.assertEqual(letters_of(ONE), "z")
        self.assertEqual(letters_of(LETTERS_ONLY), "abcdefgh")

    def test_points_4_and_11_beginnings(self):
        self.assertEqual(beginnings_of(ONE), ("",))
        self.assertEqual(beginnings_of(DOC), ("", "a", "b", "bc"))
        self.assertEqual(beginnings_of(EIGHT), ("", "a", "b", "ab", "ba", "bb", "aba", "bbb"))

    def test_point_11_against_the_definition(self):
        for words in (*LISTS, *helpers.TWO_LETTERS):
            texts = helpers.texts_of(words, 3)
            spelled = [word for word, _ in words]
            expected = [text for text in texts if any(w.startswith(text) and w != text for w in spelled)]
            self.assertEqual(beginnings_of(words), tuple(expected))

    def test_cost_of_word(self):
        for words in LISTS:
            for word, cost in words:
                self.assertEqual(cost_of_word(words, word), cost)

    def test_point_16_reversed(self):
        self.assertEqual(reversed_list(SMALL), (("a", 1), ("b", 2), ("ba", 1)))
        self.assertEqual(reversed_list(ONE), ONE)
        for words in LISTS:
            self.assertEqual(reversed_list(words), helpers.turned(words))
            self.assertTrue(is_list(reversed_list(words)))
            self.assertEqual(reversed_list(reversed_list(words)), words)


class Changing(unittest.TestCase):
    def test_point_17_putting_in(self):
        self.assertEqual(with_word(SMALL, "bab", 3), (("a", 1), ("ab", 1), ("b", 2), ("bab", 3)))
        self.assertEqual(with_word(SMALL, "c", 9), (("a", 1), ("ab", 1), ("b", 2), ("c", 9)))
        self.assertEqual(with_word(SMALL, "aaaa", 1), (("a", 1), ("aaaa", 1), ("ab", 1), ("b", 2)))

    def test_point_17_a_word_that_is_there(self):
        self.assertEqual(with_word(SMALL, "ab", 7), (("a", 1), ("ab", 7), ("b", 2)))
        self.assertEqual(with_word(SMALL, "ab", 1), SMALL)
        changed = with_word(EIGHT, "bb", 9)
        self.assertEqual((len(changed), dict(changed)["bb"]), (8, 9))

    def test_point_17_what_comes_is_no_list(self):
        for words, word in ((EIGHT, "aa"), (EIGHT, "c"), (SMALL, "ac"), (ONE, "aa"), (ONE, "za")):
            self.assertEqual(helpers.told_name(self, with_word, (words, word, 1)), "word")

    def test_point_17_taking_out(self):
        self.assertEqual(without_word(SMALL, "ab"), (("a", 1), ("b", 2)))
        self.assertEqual(without_word((("a", 1), ("b", 2)), "a"), (("b", 2),))
        self.assertEqual(without_word((("a", 1), ("aa", 1), ("b", 2)), "b"), (("a", 1), ("aa", 1)))

    def test_point_17_what_is_left_is_no_list(self):
        for words, word in ((SMALL, "a"), (SMALL, "b"), (ONE, "z"), (DOC, "d")):
            self.assertEqual(helpers.told_name(self, without_word, (words, word)), "word")

    def test_point_17_all_words_in_and_out(self):
        spelled = ["".join(row) for many in (1, 2, 3) for row in product("abc", repeat=many)]
        for words in (SMALL, EIGHT, DOC, ONE):
            for word in spelled:
                others = [pair for pair in words if pair[0] != word]
                made = tuple(sorted([*others, (word, 4)]))
                if is_list(made):
                    self.assertEqual(with_word(words, word, 4), made)
                else:
                    self.assertRaises(BadValue, with_word, words, word, 4)
                if len(others) < len(words) and is_list(tuple(others)):
                    self.assertEqual(without_word(words, word), tuple(others))
                else:
                    self.assertRaises(BadValue, without_word, words, word)


class Wrong(unittest.TestCase):
    def test_points_7_and_19_words(self):
        for function in (letters_of, beginnings_of, reversed_list):
            check_errors(self, function, (SMALL,), ((0, "words", BAD_LISTS),))
        check_errors(self, is_text, (SMALL, "a"), ((0, "words", BAD_LISTS),))

    def test_point_19_words_are_checked_ahead_of_the_value(self):
        for value in (None, 1, "z", []):
            self.assertEqual(helpers.told_name(self, is_text, ((), value)), "words")

    def test_points_7_and_19_word(self):
        wrong = ((0, "words", BAD_LISTS), (1, "word", (*NO_WORDS, "c", "ba", "aa")))
        check_errors(self, cost_of_word, (SMALL, "ab"), wrong)
        check_errors(self, without_word, (SMALL, "ab"), wrong)

    def test_points_7_and_19_with_word(self):
        wrong = ((0, "words", BAD_LISTS), (1, "word", NO_WORDS), (2, "cost", NO_COSTS))
        check_errors(self, with_word, (SMALL, "ba", 1), wrong)

    def test_point_19_the_cost_comes_ahead_of_what_comes(self):
        for cost in NO_COSTS:
            self.assertEqual(helpers.told_name(self, with_word, (SMALL, "ac", cost)), "cost")
        self.assertEqual(helpers.told_name(self, with_word, (SMALL, "ac", 9)), "word")


class Repeating(unittest.TestCase):
    def test_point_2(self):
        for function in (is_list, letters_of, beginnings_of, reversed_list):
            helpers.check_pure(self, function, DOC)
        helpers.check_pure(self, is_list, [["a", 1]])
        helpers.check_pure(self, is_text, DOC, ["a"])
        helpers.check_pure(self, cost_of_word, DOC, "bcd")
        helpers.check_pure(self, with_word, DOC, "bcda", 2)
        helpers.check_pure(self, without_word, DOC, "bcd")

    def test_point_3_kinds(self):
        helpers.check_kind(self, str, letters_of(DOC))
        helpers.check_kind(self, int, cost_of_word(DOC, "a"))
        for value in (beginnings_of(DOC), reversed_list(DOC), with_word(DOC, "ba", 1), without_word(DOC, "ab")):
            helpers.check_kind(self, tuple, value)


if __name__ == "__main__":
    unittest.main()
