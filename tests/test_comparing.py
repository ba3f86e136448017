"""Tests of greedycuts.comparing: points 2, 3, 7, 8, 99, 100, 103, 104 and 106 to 109."""

import unittest
from itertools import product

from greedycuts.bounding import accepts_bound, growth, potentials_for
from greedycuts.comparing import changed_words, common_letters, difference, first_different, greatest_difference
from greedycuts.costs import least_cost
from tests import helpers
from tests.helpers import (
    BAD_LISTS, BAD_TEXTS, DEAR, DOC, EIGHT, ENDS, LETTERS_ONLY, LONG, MIXED, ONE, SMALL, TWO_LISTS, WITH_GREATEST,
    both_after, by_length, check_errors, check_kind, check_pure, common, common_texts, cost, greedy, slow_befores,
    slow_difference, slow_growing,
)

APART = ((SMALL, ONE), (ONE, SMALL), (ONE, (("a", 1), ("aa", 9))), (LETTERS_ONLY, ONE))
FEWER = (("a", 1), ("b", 1), ("bcd", 1), ("c", 1), ("d", 1))


class Letters(unittest.TestCase):
    def test_point_99_common_letters(self):
        self.assertEqual(common_letters(DOC, SMALL), "ab")
        self.assertEqual(common_letters(SMALL, DOC), "ab")
        self.assertEqual(common_letters(DOC, DOC), "abcd")
        self.assertEqual(common_letters(LETTERS_ONLY, LETTERS_ONLY), "abcdefgh")
        self.assertEqual(common_letters(LETTERS_ONLY, (("b", 1), ("bz", 1), ("h", 9), ("z", 1))), "bh")
        for one, other in APART:
            self.assertEqual(common_letters(one, other), "")
        for one, other in TWO_LISTS:
            self.assertEqual(common_letters(one, other), common(one, other))

    def test_point_99_differences(self):
        for one, other in TWO_LISTS:
            self.assertEqual(difference(one, other, ""), 0)
            for text in common_texts(one, other, 4):
                self.assertEqual(difference(one, other, text), slow_difference(one, other, text))
                self.assertEqual(difference(other, one, text), -difference(one, other, text))

    def test_point_99_texts_of_30_letters(self):
        for one, other in TWO_LISTS:
            for start in common_texts(one, other, 3)[1:]:
                text = (start * 30)[:30]
                self.assertEqual(difference(one, other, text), slow_difference(one, other, text))
        self.assertEqual(difference(DEAR, (("a", 1),), "a" * 30), 15 * 9 - 30)
        self.assertEqual(difference((("a", 9),), (("a", 1),), "a" * 30), 240)
        self.assertEqual(difference((("a", 1),), (("a", 9),), "a" * 30), -240)

    def test_point_100_gains_and_what_is_left(self):
        for one, other in TWO_LISTS[::3]:
            for text in common_texts(one, other, 4):
                pair, gained = both_after(one, other, ("", ""), text)
                left = cost(one, greedy(one, pair[0])) - cost(other, greedy(other, pair[1]))
                self.assertEqual(difference(one, other, text), gained + left)


class Greatest(unittest.TestCase):
    def test_point_104_the_first_text(self):
        for many, one, other in WITH_GREATEST:
            told, number, text = greatest_difference(one, other)
            self.assertEqual((told, len(text)), ("greatest", many))
            texts = common_texts(one, other, min(many + 2, 11 if len(common(one, other)) < 3 else 7))
            greatest = max(slow_difference(one, other, some) for some in texts)
            first = [some for some in texts if slow_difference(one, other, some) == greatest][0]
            self.assertEqual((number, text), (greatest, first))

    def test_point_104_no_text_has_more(self):
        seen = 0
        for one, other in TWO_LISTS:
            told = greatest_difference(one, other)
            if told[0] == "greatest":
                seen += 1
                _, number, text = told
                self.assertEqual(slow_difference(one, other, text), number)
                for some in common_texts(one, other, 6):
                    reached = slow_difference(one, other, some)
                    self.assertLessEqual(reached, number)
                    if reached == number:
                        self.assertGreaterEqual((len(some), some), (len(text), text))
        self.assertGreater(seen, 20)

    def test_point_104_growing(self):
        seen = 0
        for one, other in TWO_LISTS:
            told = greatest_difference(one, other)
            if told[0] == "grows":
                seen += 1
                self.assertEqual(told[1:], slow_growing(one, other), (one, other))
        self.assertGreater(seen, 100)

    def test_point_104_long_rounds(self):
        told = [greatest_difference(one, other) for one, other in TWO_LISTS]
        self.assertIn(("grows", "bbabbabbb", "abbb"), told)
        self.assertIn(("grows", "", "b" * 12), told)

    def test_point_104_the_order_of_the_rounds(self):
        # The shortest cycle counts, although a longer one grows more with each letter.
        one = (("a", 1), ("ab", 9), ("b", 2))
        other = (("a", 1), ("b", 1))
        self.assertEqual(greatest_difference(one, other), ("grows", "", "b"))
        # Of the shortest cycles the one with the greatest growth, also if its before is longer.
        self.assertEqual(greatest_difference((("a", 2), ("b", 3)), other), ("grows", "", "b"))
        one = (("a", 2), ("b", 1), ("baaa", 9))
        self.assertEqual(greatest_difference(one, other), ("grows", "", "a"))
        one = (("a", 9), ("aa", 9), ("ab", 9), ("b", 2))
        self.assertEqual(greatest_difference(one, other), slow(one, other))
        # With equal growth the first one in alphabetical order, and the shortest before.
        self.assertEqual(greatest_difference((("a", 2), ("b", 2)), other), ("grows", "", "a"))
        self.assertEqual(greatest_difference((("b", 2), ("c", 2)), (("b", 1), ("c", 1))), ("grows", "", "b"))

    def test_point_104_growth_only_behind_a_before(self):
        # From the beginning a makes both readers hold it, so the pair is not yet the same.
        one, other = (("a", 2), ("ab", 1), ("b", 1)), (("a", 1), ("b", 1))
        self.assertEqual(greatest_difference(one, other), ("grows", "a", "a"))
        self.assertIsNone(growth(one, other, "", "a"))
        self.assertEqual(growth(one, other, "a", "a"), 1)

    def test_point_104_equal_lists(self):
        for words in (DOC, SMALL, ONE, EIGHT, LONG, MIXED, LETTERS_ONLY):
            self.assertEqual(greatest_difference(words, words), ("greatest", 0, ""))

    def test_point_104_no_common_letter(self):
        for one, other in APART:
            self.assertEqual(greatest_difference(one, other), ("greatest", 0, ""))

    def test_point_104_lists_that_differ_in_a_cost(self):
        for words in (DOC, EIGHT, MIXED):
            for index, (word, price) in enumerate(words):
                if price < 9:
                    dearer = (*words[:index], (word, price + 1), *words[index + 1:])
                    # In EIGHT a word goes on with each letter behind b, so that b stands at the end alone.
                    if (words, word) == (EIGHT, "b"):
                        self.assertEqual(greatest_difference(dearer, words), ("greatest", 1, "b"))
                    else:
                        self.assertEqual(greatest_difference(dearer, words), slow(dearer, words))
                    self.assertEqual(greatest_difference(words, dearer), ("greatest", 0, ""))

    def test_point_103_always_one_of_both(self):
        for one, other in TWO_LISTS:
            told = greatest_difference(one, other)
            table = potentials_for(one, other)
            if told[0] == "grows":
                self.assertIsNone(table)
                self.assertGreater(growth(one, other, told[1], told[2]), 0)
            else:
                self.assertIs(accepts_bound(one, other, told[1], table), True)

    def test_point_101_repeating_grows(self):
        for one, other in TWO_LISTS:
            told = greatest_difference(one, other)
            if told[0] == "grows":
                _, before, cycle = told
                by = growth(one, other, before, cycle)
                reached = [slow_difference(one, other, before + cycle * many) for many in range(6)]
                self.assertEqual([after - ahead for ahead, after in zip(reached, reached[1:])], [by] * 5)

    def test_befores_are_the_first_ones(self):
        for one, other in TWO_LISTS[::2]:
            told = greatest_difference(one, other)
            if told[0] == "grows":
                self.assertIn(told[1], slow_befores(one, other).values())


def slow(one, other):
    """What is told of two lists whose differences grow."""
    return ("grows", *slow_growing(one, other))


class Different(unittest.TestCase):
    def test_point_106_the_first_different_text(self):
        for one, other in TWO_LISTS:
            texts = common_texts(one, other, 5)
            unlike = [text for text in texts if greedy(one, text) != greedy(other, text)]
            found = first_different(one, other)
            self.assertEqual(found, unlike[0] if unlike else None)
            self.assertEqual(first_different(other, one), found)
            if found is not None:
                self.assertIs((found in dict(one)) != (found in dict(other)), True)

    def test_point_106_none(self):
        for one, other in APART:
            self.assertIsNone(first_different(one, other))
        for words in (DOC, EIGHT, ONE):
            self.assertIsNone(first_different(words, words))
        # Costs do not matter, and words with letters that are not common neither.
        self.assertIsNone(first_different(SMALL, (("a", 9), ("ab", 8), ("b", 7))))
        self.assertIsNone(first_different(SMALL, (("a", 1), ("ab", 1), ("ac", 1), ("b", 1), ("c", 1))))

    def test_point_106_of_several_words(self):
        one = (("a", 1), ("aab", 1), ("b", 1), ("bb", 1))
        other = (("a", 1), ("b", 1), ("ba", 1))
        self.assertEqual(first_different(one, other), "ba")
        self.assertEqual(first_different(other, one), "ba")
        self.assertEqual(first_different(one, (("a", 1), ("aaaa", 1), ("b", 1))), "bb")
        self.assertEqual(first_different((("a", 1), ("aab", 1), ("b", 1)), (("a", 1), ("aaaa", 1), ("b", 1))), "aab")

    def test_point_106_changed_words(self):
        for one, other in TWO_LISTS:
            letters = common(one, other)
            table = dict(other)
            expected = by_length(
                word for word, price in one
                if all(letter in letters for letter in word) and (word not in table or table[word] != price)
            )
            self.assertEqual(changed_words(one, other), expected)

    def test_point_106_examples_of_changed_words(self):
        self.assertEqual(changed_words(DOC, SMALL), ["b"])
        self.assertEqual(changed_words(SMALL, DOC), ["b"])
        self.assertEqual(changed_words(DOC, FEWER), ["ab"])
        self.assertEqual(changed_words(FEWER, DOC), [])
        self.assertEqual(changed_words(EIGHT, (("a", 3), ("b", 1))), ["b", "ab", "ba", "bb", "baa", "abab", "bbba"])
        self.assertEqual(changed_words(SMALL, SMALL), [])
        for one, other in APART:
            self.assertEqual(changed_words(one, other), [])

    def test_point_107_nothing_changed(self):
        for one, other in TWO_LISTS:
            if not changed_words(one, other) and not changed_words(other, one):
                self.assertEqual(greatest_difference(one, other), ("greatest", 0, ""))
                self.assertEqual(greatest_difference(other, one), ("greatest", 0, ""))
                self.assertIsNone(first_different(one, other))
        one = (("a", 2), ("ab", 1), ("ax", 3), ("b", 1), ("x", 4))
        other = (("a", 2), ("ab", 1), ("b", 1), ("y", 4), ("yb", 3))
        self.assertEqual((changed_words(one, other), changed_words(other, one)), ([], []))
        self.assertTrue(all(difference(one, other, text) == 0 for text in common_texts(one, other, 6)))

    def test_point_107_words_that_are_added(self):
        for text in helpers.texts_of(DOC, 5):
            self.assertLessEqual(least_cost(DOC, text), least_cost(FEWER, text))
        self.assertEqual([difference(DOC, FEWER, "abcd" * many) for many in (1, 2, 7)], [1, 2, 7])


class Wrong(unittest.TestCase):
    def test_points_7_and_108_lists(self):
        wrong = ((0, "first", BAD_LISTS), (1, "second", BAD_LISTS))
        for function in (common_letters, greatest_difference, first_different, changed_words):
            check_errors(self, function, (DOC, SMALL), wrong)

    def test_points_7_and_108_texts(self):
        for function, good in ((difference, (DOC, SMALL, "abba")), (difference, (SMALL, DOC, "a" * 30))):
            wrong = ((0, "first", BAD_LISTS), (1, "second", BAD_LISTS), (2, "text", BAD_TEXTS))
            check_errors(self, function, good, wrong)

    def test_point_108_letters_of_one_list_alone(self):
        check_errors(self, difference, (DOC, SMALL, ""), ((2, "text", ("c", "abc", "d", "bcd")),))
        check_errors(self, difference, (SMALL, DOC, ""), ((2, "text", ("c", "abc", "d", "bcd")),))
        for one, other in APART:
            check_errors(self, difference, (one, other, ""), ((2, "text", ("a", "z", "zz", None)),))


class Repeating(unittest.TestCase):
    def test_point_2(self):
        for one, other in product((DOC, SMALL, DEAR, ENDS, EIGHT), repeat=2):
            for function in (common_letters, greatest_difference, first_different, changed_words):
                check_pure(self, function, one, other)
            check_pure(self, difference, one, other, "aa")

    def test_point_3_kinds(self):
        check_kind(self, str, common_letters(DOC, SMALL))
        check_kind(self, int, difference(DOC, SMALL, "ab"))
        for one, other in ((DEAR, (("a", 1),)), ((("a", 1),), DEAR)):
            told = greatest_difference(one, other)
            check_kind(self, tuple, told)
            self.assertEqual(len(told), 3)
        check_kind(self, list, changed_words(DOC, SMALL))


if __name__ == "__main__":
    unittest.main()
