"""Tests of greedycuts.heights: points 2, 7, 50, 51 and 53."""

import unittest
from itertools import product

from greedycuts.costs import costs_of, first_cheapest, least_cost
from greedycuts.heights import accepts_heights, is_cheapest
from tests import helpers
from tests.helpers import ALL_AS, BAD_LISTS, BAD_TEXTS, DEAR, DOC, LISTS, ONE, SMALL, TWO_LETTERS, check_errors

# What are no right heights of abcd.
NO_HEIGHTS = (
    None, True, False, 0, 2, "", "01122", [], [0, 1, 1, 2, 2], (), (0,), (0, 1, 1, 2), (0, 1, 1, 2, 2, 2),
    (0, 1, 1, 2, "2"), (0, 1, 1, 2, None), (0, 1, 1, 2, (2,)), (0, 1, 1, 2, [2]), ("0", 1, 1, 2, 2), (0, 1, 1, (), 2),
    (False, 1, 1, 2, 2), (0, True, 1, 2, 2), (0, 1, 1, 2, True), (None,) * 5, ((0, 1, 1, 2, 2),), (0, 1, 1, 2, [[]]),
    (1, 1, 1, 2, 2), (-1, 0, 0, 1, 1), (1, 2, 2, 3, 3), (0, 2, 1, 2, 2), (0, 1, 2, 2, 2), (0, 1, 1, 3, 2),
    (0, 1, 1, 2, 3), (0, 0, 0, 0, 2), (0, 1, 1, 2, 10 ** 40), (0, -1, 1, 1, 1), (0,) * 1000,
)
# What is no cut of abcd.
NO_CUTS = (
    None, True, 0, "", "abcd", (), ["a", "bcd"], ("a",), ("a", "bcd", ""), ("abcd",), ("bcd", "a"), ("a", None),
    ("a", 1), ("a", True), ("a", ["bcd"]), (("a", "bcd"),), ("a", "bcd", "a"), [], ("a",) * 1000,
)


def are_right(words, text, heights):
    """Point 50, straight: heights is a tuple of as many integers as the text has indexes."""
    spelled = dict(words)
    return heights[0] == 0 and all(
        heights[j] <= heights[i] + spelled[text[i:j]]
        for j in range(len(text) + 1) for i in range(j) if text[i:j] in spelled
    )


class Heights(unittest.TestCase):
    def test_point_50_all_heights(self):
        for words in (SMALL, DEAR, ALL_AS, *TWO_LETTERS[::9]):
            for text in helpers.texts_of(words, 3):
                for heights in product(range(-2, 5), repeat=len(text) + 1):
                    self.assertIs(accepts_heights(words, text, heights), are_right(words, text, heights))

    def test_point_50_edges(self):
        self.assertIs(accepts_heights(DOC, "", (0,)), True)
        for value in ((1,), (-1,), (), (0, 0), (False,), 0, [0]):
            self.assertIs(accepts_heights(DOC, "", value), False)
        self.assertIs(accepts_heights(ONE, "z" * 30, tuple(range(0, 271, 9))), True)
        self.assertIs(accepts_heights(ONE, "z" * 30, tuple(range(0, 310, 10))), False)
        self.assertIs(accepts_heights(ALL_AS, "a" * 30, (0,) * 31), True)
        self.assertIs(accepts_heights(DOC, "abcd", (0, -(10 ** 40), -(10 ** 40), -(10 ** 40), -(10 ** 40))), True)

    def test_point_51_least_costs_are_right(self):
        for words in (*LISTS, *TWO_LETTERS):
            for text in helpers.texts_of(words, 4):
                self.assertIs(accepts_heights(words, text, costs_of(words, text)), True)
                self.assertIs(is_cheapest(words, text, first_cheapest(words, text), costs_of(words, text)), True)

    def test_point_51_whoever_made_the_heights(self):
        for words in (SMALL, DEAR, *TWO_LETTERS[::9]):
            for text in helpers.texts_of(words, 3):
                cuts = helpers.all_cuts(words, text)
                least = least_cost(words, text)
                for heights in product(range(-1, 6), repeat=len(text) + 1):
                    right = are_right(words, text, heights)
                    if right:
                        self.assertLessEqual(heights[-1], least)
                    for cut in cuts:
                        expected = right and heights[-1] == helpers.cost(words, cut)
                        self.assertIs(is_cheapest(words, text, cut, heights), expected)

    def test_point_51_other_cuts(self):
        heights = (0, 1, 1, 2, 2)
        self.assertIs(is_cheapest(DOC, "abcd", ("a", "bcd"), heights), True)
        self.assertIs(is_cheapest(DOC, "abcd", ("ab", "c", "d"), heights), False)
        self.assertIs(is_cheapest(DOC, "abcd", ("a", "bcd"), (0, 1, 1, 1, 1)), False)
        self.assertIs(is_cheapest(DOC, "", (), (0,)), True)
        self.assertIs(is_cheapest(DOC, "", ("",), (0,)), False)


class Evidence(unittest.TestCase):
    def test_points_3_and_53_every_value_is_valid(self):
        for value in (*NO_HEIGHTS, {}, {0}, 1.5, b"01122", (0, 1, 1, 2, 2.0), (0, 1, 1, 2, {})):
            self.assertIs(accepts_heights(DOC, "abcd", value), False, value)
            self.assertIs(is_cheapest(DOC, "abcd", ("a", "bcd"), value), False, value)
        for value in (*NO_CUTS, {}, {"a"}, 1.5, ("a", {}), ("a", b"bcd")):
            self.assertIs(is_cheapest(DOC, "abcd", value, (0, 1, 1, 2, 2)), False, value)
            for other in NO_HEIGHTS:
                self.assertIs(is_cheapest(DOC, "abcd", value, other), False)


class Wrong(unittest.TestCase):
    wrong = ((0, "words", BAD_LISTS), (1, "text", BAD_TEXTS))

    def test_points_7_and_53(self):
        check_errors(self, accepts_heights, (DOC, "abcd", (0, 1, 1, 2, 2)), self.wrong)
        check_errors(self, is_cheapest, (DOC, "abcd", ("a", "bcd"), (0, 1, 1, 2, 2)), self.wrong)

    def test_points_7_and_53_ahead_of_the_evidence(self):
        for value in NO_HEIGHTS:
            self.assertEqual(helpers.told_name(self, accepts_heights, ((), "abcd", value)), "words")
            self.assertEqual(helpers.told_name(self, accepts_heights, (DOC, "z", value)), "text")
            self.assertEqual(helpers.told_name(self, is_cheapest, ((), "abcd", value, value)), "words")
            self.assertEqual(helpers.told_name(self, is_cheapest, (DOC, None, value, value)), "text")


class Repeating(unittest.TestCase):
    def test_point_2(self):
        for heights in ((0, 1, 1, 2, 2), [0, 1, 1, 2, 2], None):
            helpers.check_pure(self, accepts_heights, DOC, "abcd", heights)
            helpers.check_pure(self, is_cheapest, DOC, "abcd", ["a", "bcd"], heights)
            helpers.check_pure(self, is_cheapest, DOC, "abcd", ("a", "bcd"), heights)


if __name__ == "__main__":
    unittest.main()
