"""Tests of greedycuts.leaving: points 2, 7, 8 and 75 to 84."""

import unittest
from itertools import product

from greedycuts.costs import costs_of, first_cheapest
from greedycuts.leaving import (
    accepts_rests, change, first_dearer, greatest_change, is_closed, is_graded, is_kind, never_costs_more, rests,
    shows_more,
)
from greedycuts.lists import is_list, reversed_list, with_word
from greedycuts.optimality import always_best
from tests import helpers
from tests.helpers import (
    ALL_AS, BAD_LISTS, DOC, EIGHT, LETTERS_ONLY, LISTS, LONG, ONE, SMALL, THREE_LETTERS, TWO_LETTERS, check_errors,
    least,
)

SIDES = ("first", "last")
EXAMPLE = (("a", 1), ("ab", 1), ("b", 2), ("bba", 1), ("bbab", 1))
KIND = (("a", 1), ("ab", 1), ("b", 1), ("bab", 1))
# Here the rests of both sides exist, and those of "last" are not the ones of "first".
BOTH = (("a", 1), ("aab", 2), ("ab", 1), ("b", 1))
MANY_LISTS = (*LISTS, LETTERS_ONLY, EXAMPLE, KIND, BOTH, *TWO_LETTERS, *THREE_LETTERS)
OF_SIDE = (greatest_change, never_costs_more, first_dearer, rests, is_closed)

NO_SIDES = (None, True, False, 0, 1, "", "First", "FIRST", "first ", "middle", "lasts", (), ("first",), ["first"], "last\n")
NO_WORDS = (None, True, 0, "", "z", "A", "bb", "bba ", "abba", (), ("a",), ["a"], "a" * 50)


def cut_off(text, side):
    """The rest of the text."""
    return text[1:] if side == "first" else text[:-1]


def changes(words, side):
    """The changes of the words, in their order."""
    return [least(words, cut_off(word, side)) - price for word, price in words]


def costly(words, side, most):
    """How much the least cost can rise for a text of 1 to so many letters, at most."""
    texts = helpers.texts_of(words, most)[1:]
    return max(least(words, cut_off(text, side)) - least(words, text) for text in texts)


class Changes(unittest.TestCase):
    def test_points_75_and_77(self):
        for words in MANY_LISTS:
            for side in SIDES:
                told = changes(words, side)
                self.assertEqual([change(words, side, word) for word, _ in words], told)
                greatest = max(told)
                self.assertEqual(greatest_change(words, side), (greatest, words[told.index(greatest)][0]))
                dearer = [word for (word, _), more in zip(words, told) if more > 0]
                self.assertEqual(first_dearer(words, side), dearer[0] if dearer else None)
                self.assertIs(never_costs_more(words, side), not dearer)

    def test_point_77_a_word_whose_rest_is_empty(self):
        self.assertEqual((change(ONE, "first", "z"), change(ONE, "last", "z")), (-9, -9))
        self.assertEqual(greatest_change(ONE, "first"), (-9, "z"))
        self.assertEqual(greatest_change(LETTERS_ONLY, "last"), (-1, "a"))
        self.assertEqual((change(ALL_AS, "first", "a"), change(ALL_AS, "first", "aaaa")), (-1, -3))

    def test_points_76_and_77_against_all_texts(self):
        for words in (*TWO_LETTERS[::2], ALL_AS, LONG, SMALL, EXAMPLE, KIND, BOTH):
            for side in SIDES:
                greatest, word = greatest_change(words, side)
                self.assertEqual(costly(words, side, 6), greatest)
                self.assertIs(never_costs_more(words, side), greatest <= 0)
                self.assertEqual(least(words, cut_off(word, side)), least(words, word) + greatest)

    def test_point_84(self):
        self.assertEqual(change(EXAMPLE, "first", "ab"), 1)
        self.assertEqual((first_dearer(EXAMPLE, "first"), never_costs_more(EXAMPLE, "first")), ("ab", False))

    def test_point_82_reversed_lists(self):
        for words in MANY_LISTS:
            turned = reversed_list(words)
            self.assertIs(never_costs_more(words, "first"), never_costs_more(turned, "last"))
            self.assertEqual(greatest_change(words, "first")[0], greatest_change(turned, "last")[0])
            self.assertIs(is_closed(words, "first"), is_closed(turned, "last"))
            for word, _ in words:
                self.assertEqual(change(words, "first", word), change(turned, "last", word[::-1]))

    def test_point_82_multiplied_costs(self):
        for words in MANY_LISTS:
            for factor in (2, 3):
                more = tuple((word, price * factor) for word, price in words)
                if not is_list(more):
                    continue
                for side in SIDES:
                    self.assertEqual(changes(more, side), [factor * one for one in changes(words, side)])
                    self.assertEqual(greatest_change(more, side)[0], factor * greatest_change(words, side)[0])
                    for function in (never_costs_more, first_dearer, rests, is_closed):
                        self.assertEqual(function(more, side), function(words, side))
                self.assertEqual((is_graded(more), is_kind(more)), (is_graded(words), is_kind(words)))

    def test_point_82_a_further_dear_word(self):
        for words in (SMALL, BOTH, KIND, *TWO_LETTERS[::5]):
            for word in ("bb", "abab", "bbb"):
                price = least(words, word)
                if word in dict(words) or price > 9:
                    continue
                more = with_word(words, word, price)
                for side in SIDES:
                    for old, _ in words:
                        self.assertEqual(change(more, side, old), change(words, side, old))
                    self.assertLessEqual(change(more, side, word), greatest_change(words, side)[0])


class Rests(unittest.TestCase):
    def test_point_78_first_cheapest_cuts(self):
        for words in MANY_LISTS:
            for side in SIDES:
                told = rests(words, side)
                self.assertIs(told is None, not never_costs_more(words, side))
                if told is not None:
                    self.assertEqual(told, tuple(first_cheapest(words, cut_off(word, side)) for word, _ in words))
                    self.assertIs(accepts_rests(words, side, told), True)

    def test_point_78_both_sides(self):
        self.assertEqual(rests(BOTH, "first"), ((), ("ab",), ("b",), ()))
        self.assertEqual(rests(BOTH, "last"), ((), ("a", "a"), ("a",), ()))
        self.assertIs(accepts_rests(BOTH, "last", rests(BOTH, "first")), False)
        self.assertEqual((rests(ONE, "first"), rests(ONE, "last")), (((),), ((),)))
        self.assertEqual(rests(LETTERS_ONLY, "first"), ((),) * 8)

    def test_point_78_every_choice_of_cuts(self):
        for words in (SMALL, BOTH, KIND, EXAMPLE, ALL_AS, LONG, *TWO_LETTERS[::7]):
            for side in SIDES:
                options = [helpers.all_cuts(words, cut_off(word, side)) for word, _ in words]
                accepted = 0
                for value in product(*options):
                    right = all(helpers.cost(words, cut) <= price for cut, (_, price) in zip(value, words))
                    self.assertIs(accepts_rests(words, side, value), right)
                    accepted += right
                self.assertIs(accepted > 0, never_costs_more(words, side))

    def test_points_78_and_83_every_value_is_valid(self):
        good = ((), ("b",), (), ("ab",))
        self.assertIs(accepts_rests(KIND, "first", good), True)
        for value in (
            None, True, False, 0, 3, 10 ** 40, 1.5, "", "first", (), [], {}, {1}, list(good), good[:3], (*good, ()), good[::-1],
            ((), ("b",), ()), ([], ("b",), (), ("ab",)), ((), ["b"], (), ("ab",)), ((), "b", (), ("ab",)),
            ((), ("b",), (), "ab"), ((), ("b",), None, ("ab",)), (None,) * 4, (0,) * 4, (True,) * 4, ("",) * 4,
            ((), ("b",), ("",), ("ab",)), ((), ("b",), (), ("ab", "")), ((), ("b",), (), ("ba",)),
            ((), ("a",), (), ("ab",)), ((), ("b",), (), ("b",)), ((), ("b",), (), ("bab",)), ((), ("b",), (), ()),
            ((), ("b",), (), ("a", "b")), ((), (1,), (), ("ab",)), ((), (None,), (), ("ab",)), ((), (True,), (), ("ab",)),
            ((), (("b",),), (), ("ab",)), ((), (["b"],), (), ("ab",)), ((), ({},), (), ("ab",)), ((), (b"b",), (), ("ab",)),
            (good,), ((), ("b",), (), (("ab",),)), (("b",), ("b",), (), ("ab",)),
        ):
            self.assertIs(accepts_rests(KIND, "first", value), False, value)
        self.assertIs(accepts_rests(KIND, "last", good), False)


class ShowsMore(unittest.TestCase):
    def test_point_78_least_costs(self):
        for words in MANY_LISTS:
            for side in SIDES:
                for (word, _), more in zip(words, changes(words, side)):
                    heights = costs_of(words, cut_off(word, side))
                    self.assertIs(shows_more(words, side, word, heights), more > 0)

    def test_point_78_whoever_wrote_the_heights(self):
        for words in (SMALL, EXAMPLE, KIND, *TWO_LETTERS[::9]):
            for side in SIDES:
                for word, price in words:
                    rest = cut_off(word, side)
                    places = [
                        (i, j, dict(words)[rest[i:j]])
                        for j in range(len(rest) + 1) for i in range(j) if rest[i:j] in dict(words)
                    ]
                    for heights in product(range(-1, 5), repeat=len(rest) + 1):
                        right = heights[0] == 0 and all(heights[j] <= heights[i] + one for i, j, one in places)
                        expected = right and heights[-1] > price
                        self.assertIs(shows_more(words, side, word, heights), expected)

    def test_points_78_and_83_every_value_is_valid(self):
        self.assertIs(shows_more(EXAMPLE, "first", "ab", (0, 2)), True)
        for value in (
            None, True, 0, 2, "", "02", [], [0, 2], {}, {0}, 1.5, (), (0,), (2,), (0, 2, 2), (0, 2, 4), (0, 1), (0, 0),
            (0, 3), (1, 3), (-1, 1), (False, 2), (0, True), (0, None), (0, "2"), (0, (2,)), (0, [2]), ("0", 2), (None, None),
            ((0, 2),), (0, 2.0), (0, {}), (0, 10 ** 40), (0, -(10 ** 40)), (0,) * 1000,
        ):
            self.assertIs(shows_more(EXAMPLE, "first", "ab", value), False, value)
        # Here the rest is empty, so that it costs nothing whatever is told.
        for value in ((0,), (1,), (9,), (), None, (0, 9)):
            self.assertIs(shows_more(EXAMPLE, "first", "a", value), False, value)


class Kinds(unittest.TestCase):
    def test_point_79(self):
        for words in MANY_LISTS:
            spelled = [word for word, _ in words]
            for side in SIDES:
                closed = all(cut_off(word, side) in spelled for word in spelled if len(word) >= 2)
                self.assertIs(is_closed(words, side), closed)
                if closed and all(dict(words).get(cut_off(word, side), 0) <= price for word, price in words):
                    self.assertIs(never_costs_more(words, side), True)

    def test_point_79_edges(self):
        for words in (ONE, LETTERS_ONLY, ALL_AS):
            self.assertEqual((is_closed(words, "first"), is_closed(words, "last")), (True, True))
        self.assertEqual((is_closed(DOC, "first"), is_closed(DOC, "last")), (False, False))
        ends = (("a", 1), ("aabc", 1), ("abc", 1), ("b", 1), ("bc", 1), ("c", 1))
        self.assertEqual((is_closed(ends, "first"), is_closed(ends, "last")), (True, False))

    def test_point_80(self):
        for words in MANY_LISTS:
            graded = not any(
                price > other and word.startswith(begun) for word, price in words for begun, other in words
            )
            self.assertIs(is_graded(words), graded)
        self.assertIs(is_graded((("a", 1), ("ab", 2), ("b", 1))), False)
        self.assertIs(is_graded((("a", 2), ("ab", 2), ("b", 1))), True)
        self.assertIs(is_graded((("a", 2), ("abbb", 3), ("b", 9))), False)
        self.assertIs(is_graded(ONE), True)

    def test_point_81(self):
        seen = set()
        for words in MANY_LISTS:
            kind = never_costs_more(words, "first") and is_graded(words)
            self.assertIs(is_kind(words), kind)
            if kind:
                self.assertIs(always_best(words), True)
            seen.add((kind, always_best(words)))
        self.assertEqual(seen, {(True, True), (False, True), (False, False)})

    def test_point_81_both_parts_are_needed(self):
        words = (("a", 1), ("ab", 9), ("b", 1))
        self.assertEqual((never_costs_more(words, "first"), is_graded(words), is_kind(words)), (True, False, False))
        self.assertEqual((never_costs_more(SMALL, "first"), is_graded(SMALL), is_kind(SMALL)), (False, True, False))
        turned = (("a", 2), ("b", 1), ("ba", 1))
        self.assertEqual((never_costs_more(turned, "last"), is_kind(turned)), (True, False))
        # At the side "last" it can cost more, which does not matter.
        some = (("a", 2), ("ab", 1), ("b", 1))
        self.assertEqual((never_costs_more(some, "last"), is_kind(some)), (False, True))


class Wrong(unittest.TestCase):
    words = (0, "words", BAD_LISTS)
    side = (1, "side", NO_SIDES)

    def test_points_7_and_83_side(self):
        for good in SIDES:
            for function in OF_SIDE:
                check_errors(self, function, (EXAMPLE, good), (self.words, self.side))
            for value in (None, (), 3, ((),)):
                check_errors(self, accepts_rests, (EXAMPLE, good, value), (self.words, self.side))

    def test_points_7_and_83_word(self):
        wrong = (self.words, self.side, (2, "word", NO_WORDS))
        for good in SIDES:
            check_errors(self, change, (EXAMPLE, good, "bba"), wrong)
            for value in ((0, 2), None, [0], "heights"):
                check_errors(self, shows_more, (EXAMPLE, good, "ab", value), wrong)

    def test_points_7_and_83_words(self):
        for function in (is_graded, is_kind):
            check_errors(self, function, (EXAMPLE,), (self.words,))

    def test_other_kinds(self):
        for value in ({}, {"first"}, 1.5, b"first"):
            self.assertEqual(helpers.told_name(self, rests, (EXAMPLE, value)), "side")
            self.assertEqual(helpers.told_name(self, change, (EXAMPLE, "first", value)), "word")


class Repeating(unittest.TestCase):
    def test_point_2(self):
        for words in (EXAMPLE, KIND, EIGHT):
            for side in SIDES:
                for function in OF_SIDE:
                    helpers.check_pure(self, function, words, side)
                helpers.check_pure(self, change, words, side, "ab")
                for value in (((), ["b"], (), ("ab",)), [[]], rests(words, side)):
                    helpers.check_pure(self, accepts_rests, words, side, value)
                    helpers.check_pure(self, shows_more, words, side, "ab", value)
            for function in (is_graded, is_kind):
                helpers.check_pure(self, function, words)

    def test_point_3_kinds(self):
        helpers.check_kind(self, int, change(EXAMPLE, "first", "ab"))
        helpers.check_kind(self, tuple, greatest_change(EXAMPLE, "first"))
        helpers.check_kind(self, tuple, rests(KIND, "first"))
        helpers.check_kind(self, tuple, rests(KIND, "first")[0])
        helpers.check_kind(self, str, first_dearer(EXAMPLE, "first"))


if __name__ == "__main__":
    unittest.main()
