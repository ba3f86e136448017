"""Tests of greedycuts.costs: points 2, 7, 44 to 49, 52 and 53."""

import unittest

from greedycuts.costs import (
    certain_boundaries, certain_words, cost_through, costs_of, count_cheapest, first_cheapest, least_cost,
    possible_boundaries, possible_words, waste,
)
from greedycuts.cuts import count_cuts
from greedycuts.lists import with_word
from greedycuts.longest import longest_match
from tests import helpers
from tests.helpers import (
    AAA, ALL_AS, BAD_LISTS, BAD_NUMBERS, BAD_TEXTS, DEAR, DOC, EIGHT, LETTERS_ONLY, LISTS, LONG, MIXED, ONE, SMALL,
    TWO_LETTERS, check_errors,
)

THIRTY = "a" * 30
# All cuts of a text cost the same.
EVEN = (("a", 1), ("aa", 2), ("aaa", 3), ("aaaa", 4))
OF_TEXT = (
    least_cost, waste, first_cheapest, count_cheapest, costs_of, possible_boundaries, certain_boundaries,
    possible_words, certain_words,
)


def cases():
    """Word lists with texts whose cuts can be listed."""
    for words in (*LISTS, EVEN, *TWO_LETTERS[::3]):
        for text in helpers.texts_of(words, 5 if len(words) < 5 else 4):
            yield words, text
    for words, text in ((EIGHT, "ababbbaabab"), (LONG, "abbabbabba"), (MIXED, "caabcabca"), (DOC, "abcdbcdab")):
        yield words, text


def cheapest(words, text):
    """The cheapest ones of all cuts, in their order."""
    cuts = helpers.all_cuts(words, text)
    least = min(helpers.cost(words, cut) for cut in cuts)
    return [cut for cut in cuts if helpers.cost(words, cut) == least]


def places(cut):
    """The places of the words of the cut."""
    marks = [0, *helpers.boundaries(cut), len("".join(cut))]
    return set(zip(marks, marks[1:])) if cut else set()


class Cheapest(unittest.TestCase):
    def test_points_44_and_45(self):
        for words, text in cases():
            found = cheapest(words, text)
            self.assertEqual(least_cost(words, text), helpers.cost(words, found[0]))
            self.assertEqual(first_cheapest(words, text), found[0])
            self.assertEqual(count_cheapest(words, text), len(found))

    def test_point_44_waste(self):
        self.assertEqual((waste(DOC, "abcd"), waste(DOC, "abc"), waste(DEAR, "aaaa")), (1, 0, 14))
        self.assertEqual(waste(DEAR, THIRTY), 105)
        for words, text in cases():
            found = helpers.cost(words, longest_match(words, text)) - least_cost(words, text)
            self.assertEqual(waste(words, text), found)
            self.assertGreaterEqual(found, 0)
            self.assertEqual(found == 0, longest_match(words, text) in cheapest(words, text))

    def test_points_45_and_29_without_listing(self):
        self.assertEqual(count_cheapest(EVEN, THIRTY), 201061985)
        self.assertEqual(count_cheapest(EVEN, THIRTY), count_cuts(EVEN, THIRTY))
        self.assertEqual(first_cheapest(EVEN, THIRTY), tuple(THIRTY))
        self.assertEqual([count_cheapest(AAA, "a" * many) for many in (30, 29, 28)], [1, 10, 55])
        self.assertEqual(first_cheapest(AAA, "a" * 29), ("aa",) + ("aaa",) * 9)

    def test_point_45_the_shorter_word_comes_first(self):
        self.assertEqual(first_cheapest(SMALL, "ab"), ("ab",))
        self.assertEqual(first_cheapest((("a", 1), ("ab", 2), ("b", 1)), "ab"), ("a", "b"))
        self.assertEqual(first_cheapest(AAA, "aaaa"), ("a", "aaa"))

    def test_edges(self):
        for words in LISTS:
            self.assertEqual((least_cost(words, ""), waste(words, ""), costs_of(words, "")), (0, 0, (0,)))
            self.assertEqual((first_cheapest(words, ""), count_cheapest(words, "")), ((), 1))
            self.assertEqual((possible_boundaries(words, ""), certain_boundaries(words, "")), ([], []))
            self.assertEqual((possible_words(words, ""), certain_words(words, "")), ([], []))
            self.assertEqual(cost_through(words, "", 0), 0)
        self.assertEqual(least_cost(ONE, "z" * 30), 270)
        self.assertEqual(costs_of(ONE, "zzz"), (0, 9, 18, 27))
        self.assertEqual(least_cost(LETTERS_ONLY, "abcdefgh"), 36)
        self.assertEqual(least_cost((("a", 1), ("aaaa", 1)), THIRTY), 9)
        self.assertEqual(least_cost(DEAR, THIRTY), 30)


class ThroughAnIndex(unittest.TestCase):
    def test_costs_of_beginnings(self):
        for words, text in cases():
            told = tuple(least_cost(words, text[:index]) for index in range(len(text) + 1))
            self.assertEqual(costs_of(words, text), told)

    def test_point_46(self):
        for words, text in cases():
            cuts = helpers.all_cuts(words, text)
            for index in range(len(text) + 1):
                through = [
                    helpers.cost(words, cut) for cut in cuts
                    if index in (0, len(text), *helpers.boundaries(cut))
                ]
                found = cost_through(words, text, index)
                self.assertEqual(found, min(through))
                self.assertEqual(found, least_cost(words, text[:index]) + least_cost(words, text[index:]))

    def test_point_47(self):
        for words, text in cases():
            all_told = [set(helpers.boundaries(cut)) for cut in cheapest(words, text)]
            self.assertEqual(possible_boundaries(words, text), sorted(set.union(*all_told)))
            self.assertEqual(certain_boundaries(words, text), sorted(set.intersection(*all_told)))

    def test_point_48(self):
        for words, text in cases():
            all_told = [places(cut) for cut in cheapest(words, text)]
            self.assertEqual(possible_words(words, text), sorted(set.union(*all_told)))
            self.assertEqual(certain_words(words, text), sorted(set.intersection(*all_told)))

    def test_points_47_and_48_long_texts(self):
        self.assertEqual(possible_boundaries(EVEN, THIRTY), list(range(1, 30)))
        self.assertEqual((certain_boundaries(EVEN, THIRTY), certain_words(EVEN, THIRTY)), ([], []))
        self.assertEqual(len(possible_words(EVEN, THIRTY)), 30 + 29 + 28 + 27)
        self.assertEqual(certain_boundaries(AAA, THIRTY), list(range(3, 30, 3)))
        self.assertEqual(certain_words(AAA, THIRTY), [(k, k + 3) for k in range(0, 30, 3)])
        self.assertEqual(certain_boundaries(EVEN, "a"), [])
        self.assertEqual(certain_words(EVEN, "a"), [(0, 1)])

    def test_point_49(self):
        for words, text in cases():
            same = possible_boundaries(words, text) == certain_boundaries(words, text)
            self.assertEqual(count_cheapest(words, text) == 1, same)
            if same:
                self.assertEqual(set(certain_words(words, text)), places(first_cheapest(words, text)))

    def test_point_52_two_texts(self):
        for words in (*LISTS, *TWO_LETTERS[::5]):
            for one in helpers.texts_of(words, 2):
                for other in helpers.texts_of(words, 2):
                    whole = least_cost(words, one + other)
                    both = least_cost(words, one) + least_cost(words, other)
                    through = any(
                        len(one) in (0, len(one + other), *helpers.boundaries(cut))
                        for cut in cheapest(words, one + other)
                    )
                    self.assertLessEqual(whole, both)
                    self.assertEqual(whole == both, through)

    def test_point_52_further_words(self):
        for word, cost in (("ba", 1), ("bab", 2), ("aaaa", 9), ("c", 1)):
            more = with_word(SMALL, word, cost)
            for text in helpers.texts_of(SMALL, 6):
                self.assertLessEqual(least_cost(more, text), least_cost(SMALL, text))


class Wrong(unittest.TestCase):
    words = (0, "words", BAD_LISTS)
    text = (1, "text", BAD_TEXTS)

    def test_points_7_and_53_words_and_text(self):
        for function in OF_TEXT:
            check_errors(self, function, (DOC, "abcd"), (self.words, self.text))

    def test_points_7_and_53_index(self):
        for text, good in (("abcd", 0), ("abcd", 4), ("", 0), (THIRTY, 30)):
            wrong = (self.words, self.text, (2, "index", (*BAD_NUMBERS, len(text) + 1)))
            check_errors(self, cost_through, (DOC, text, good), wrong)


class Repeating(unittest.TestCase):
    def test_point_2(self):
        for function in OF_TEXT:
            helpers.check_pure(self, function, DOC, "abcdab")
        helpers.check_pure(self, cost_through, DOC, "abcdab", 2)

    def test_point_3_kinds(self):
        for function in (least_cost, waste, count_cheapest):
            helpers.check_kind(self, int, function(DOC, "abcd"))
        for function in (first_cheapest, costs_of):
            helpers.check_kind(self, tuple, function(DOC, "abcd"))
        for function in (possible_boundaries, certain_boundaries, possible_words, certain_words):
            helpers.check_kind(self, list, function(DOC, "abcd"))
        helpers.check_kind(self, tuple, possible_words(DOC, "abcd")[0])


if __name__ == "__main__":
    unittest.main()
