"""Tests of greedycuts.potentials: points 2, 7, 8, 87 to 89, 96 and 97."""

import unittest

from greedycuts.pairs import pairs_of
from greedycuts.potentials import are_right, potentials_for
from greedycuts.worst import worst_excess, worst_ratio
from tests import helpers
from tests.helpers import (
    AAA, ALL_AS, BAD_LISTS, DEAR, DOC, EIGHT, LETTERS_ONLY, LISTS, LONG, ONE, SMALL, THREE_LETTERS, TWO_LETTERS,
    check_errors, cost, greedy, least, slow_right,
)

MANY_LISTS = (*LISTS, LETTERS_ONLY, *TWO_LETTERS, *THREE_LETTERS)
GOOD = (("", "", 0), ("", "a", 9), ("a", "", -9), ("a", "a", 0))
# What are no right potentials of DEAR for the bound 9, 2, 0: GOOD with one thing changed, and values of all kinds.
NO_POTENTIALS = (
    None, True, False, 0, 4, 10 ** 40, 1.5, "", "a", (), [], {}, {1}, list(GOOD), GOOD[:3], GOOD[1:], GOOD[::-1], (GOOD,), [GOOD],
    (*GOOD, ()), (*GOOD, None), (*GOOD, GOOD[3]), (*GOOD, ("", "", 0)), (GOOD[0], *GOOD), (None,) * 4, ((),) * 4,
    (("", "", 0),), (["", "", 0], *GOOD[1:]), (("", ""), *GOOD[1:]), (("", "", 0, 0), *GOOD[1:]),
    ((None, "", 0), *GOOD[1:]), (("", None, 0), *GOOD[1:]), (("", "", None), *GOOD[1:]), ((0, "", 0), *GOOD[1:]),
    (("", "", False), *GOOD[1:]), (("", "", "0"), *GOOD[1:]), (("", "", 0.0), *GOOD[1:]), (("", "", (0,)), *GOOD[1:]),
    (("", (), 0), *GOOD[1:]), (([], "", 0), *GOOD[1:]), (({}, "", 0), *GOOD[1:]), ((b"", "", 0), *GOOD[1:]),
    (("", "", -1), *GOOD[1:]), (("", "", 1), *GOOD[1:]), (("", "", 10 ** 40), *GOOD[1:]),
    (GOOD[0], ("", "a", 8), *GOOD[2:]), (GOOD[0], ("", "a", 73), *GOOD[2:]), (GOOD[0], ("", "b", 9), *GOOD[2:]),
    (GOOD[0], ("", "a", True), *GOOD[2:]), (GOOD[0], ("", "A", 9), *GOOD[2:]), (GOOD[0], *GOOD[2:]),
    (GOOD[0], GOOD[2], GOOD[1], GOOD[3]), (*GOOD[:2], ("a", "", -10), GOOD[3]), (*GOOD[:2], ("a", "", -8), GOOD[3]),
    (*GOOD[:3], ("a", "a", -1)), (*GOOD[:3], ("a", "a", 64)), (*GOOD[:3], ("a", "a", 10 ** 40)),
    (*GOOD[:3], ("a", "aa", 0)), (*GOOD, ("b", "", 0)), (*GOOD, ("b", "b", -99)), (*GOOD, ("aa", "", 0)),
)
NO_A = (None, True, False, -1, 1001, 10 ** 40, "1", "", (), (1,), [1])
NO_B = (None, True, False, 0, -1, 1001, 10 ** 40, "1", "", (), (1,), [1])
NO_C = (None, True, False, -1, 100001, 10 ** 40, "1", "", (), (1,), [1])


def with_changes(value, by):
    """The potentials with one number changed by so much, each one after another."""
    for index, (held, tail, number) in enumerate(value):
        yield (*value[:index], (held, tail, number + by), *value[index + 1:])


def bounds():
    """Bounds of all kinds, those that the document names among them."""
    return (
        (0, 1, 0), (1, 1, 0), (1, 1, 1), (1, 1, 7), (2, 1, 0), (3, 2, 0), (3, 2, 2), (9, 2, 0), (9, 1, 0), (4, 3, 11),
        (1000, 1000, 0), (1000, 1000, 100000), (1000, 1, 100000), (0, 1000, 100000), (1000, 1, 0), (999, 1000, 100000),
        (1000, 999, 3),
    )


class Judge(unittest.TestCase):
    def test_point_88_the_example(self):
        self.assertIs(are_right(DEAR, 9, 2, 0, GOOD), True)
        for c in (1, 7, 100000):
            self.assertIs(are_right(DEAR, 9, 2, c, GOOD), True)
        for a, b in ((8, 2), (9, 3), (0, 1), (999, 1000)):
            self.assertIs(are_right(DEAR, a, b, 0, GOOD), False)

    def test_point_88_one_number_changed(self):
        for words in (*LISTS, *TWO_LETTERS[::2], *THREE_LETTERS[::4]):
            a, b = worst_ratio(words)
            c = worst_excess(words)
            value = potentials_for(words, a, b, c)
            for by in (-1, 1, -5, 100):
                for changed in with_changes(value, by):
                    self.assertIs(are_right(words, a, b, c, changed), slow_right(words, a, b, c, changed))

    def test_point_88_one_triple_left_out(self):
        for words in (*LISTS, *TWO_LETTERS[::3]):
            value = potentials_for(words, *worst_ratio(words), 100000)
            for index in range(len(value)):
                changed = value[:index] + value[index + 1:]
                # Each pair is one that a step leads to.
                self.assertIs(are_right(words, *worst_ratio(words), 100000, changed), False)

    def test_point_88_other_bounds(self):
        for words in (DEAR, DOC, LONG, AAA, *TWO_LETTERS[::6]):
            values = [potentials_for(words, *bound) for bound in bounds()]
            for a, b, c in bounds():
                for value in values:
                    if value is not None:
                        self.assertIs(are_right(words, a, b, c, value), slow_right(words, a, b, c, value))

    def test_point_88_all_numbers_lifted(self):
        # The beginning can have a number above 0 if the bound leaves room.
        value = tuple((held, tail, number + 3) for held, tail, number in GOOD)
        self.assertEqual([are_right(DEAR, 9, 2, c, value) for c in (0, 2, 3, 4)], [False, False, True, True])
        value = tuple((held, tail, number - 1) for held, tail, number in GOOD)
        self.assertIs(are_right(DEAR, 9, 2, 100, value), False)

    def test_point_88_pairs_that_no_text_leads_to(self):
        texts = helpers.texts_of(SMALL, 3)
        a, b, c = 2, 1, 4
        value = potentials_for(SMALL, a, b, c)
        known = pairs_of(SMALL)
        seen = set()
        for held in texts:
            for tail in texts:
                if (held, tail) in known:
                    continue
                for number in (-100, -3, 0, 1, 100):
                    more = tuple(sorted((*value, (held, tail, number))))
                    right = slow_right(SMALL, a, b, c, more)
                    self.assertIs(are_right(SMALL, a, b, c, more), right, more)
                    seen.add(right)
        self.assertEqual(seen, {True, False})

    def test_point_88_strings_that_no_reader_holds(self):
        value = potentials_for(DEAR, 9, 2, 0)
        # At the next letter, and at the end, the reader gives out five words at once.
        for number, right in ((-91, True), (-90, True), (-89, False), (0, False)):
            more = (*value, ("a" * 10, "", number))
            self.assertIs(are_right(DEAR, 9, 2, 0, more), right)
            self.assertIs(slow_right(DEAR, 9, 2, 0, more), right)
        self.assertIs(are_right(DEAR, 9, 2, 0, tuple(sorted((*value, ("a" * 9, "", -10 ** 50))))), True)
        self.assertIs(are_right(DEAR, 9, 2, 0, tuple(sorted((*value, ("a" * 9, "", 10 ** 50))))), False)
        # No step goes on from a tail that begins no word, and no text ends there.
        self.assertIs(are_right(DEAR, 9, 2, 0, tuple(sorted((*value, ("a", "aa", 10 ** 50))))), True)
        self.assertIs(are_right(DEAR, 9, 2, 0, tuple(sorted((*value, ("a" * 500, "a" * 500, 7))))), True)

    def test_point_88_the_order(self):
        self.assertIs(are_right(DEAR, 9, 2, 0, (*GOOD, ("a", "aa", 0), ("a", "aaa", -1))), True)
        self.assertIs(are_right(DEAR, 9, 2, 0, (*GOOD, ("a", "aaa", -1), ("a", "aa", 0))), False)
        self.assertIs(are_right(DEAR, 9, 2, 0, (*GOOD, ("a", "aa", 0), ("a", "aa", 0))), False)
        self.assertIs(are_right(DEAR, 9, 2, 0, (*GOOD, ("a", "aa", 0), ("a", "aa", 1))), False)
        self.assertIs(are_right(DEAR, 9, 2, 0, (("", "", 0), ("a", "", -9), ("", "a", 9), ("a", "a", 0))), False)

    def test_points_88_and_97_every_value_is_valid(self):
        for value in NO_POTENTIALS:
            self.assertIs(are_right(DEAR, 9, 2, 0, value), False, value)

    def test_letters_alone(self):
        self.assertIs(are_right(LETTERS_ONLY, 1, 1, 0, (("", "", 0),)), True)
        self.assertIs(are_right(ONE, 1, 1, 0, (("", "", 0),)), True)
        self.assertIs(are_right(ONE, 1, 1, 0, (("", "", 1),)), False)
        self.assertIs(are_right(ONE, 1000, 1000, 100000, (("", "", 100000),)), True)
        self.assertIs(are_right(ONE, 1000, 1000, 100000, (("", "", 100001),)), False)
        self.assertIs(are_right(ONE, 999, 1000, 100000, (("", "", 0),)), False)


class Bounds(unittest.TestCase):
    def test_points_88_and_89_they_are_right(self):
        for words in MANY_LISTS:
            for a, b, c in bounds():
                value = potentials_for(words, a, b, c)
                if value is not None:
                    self.assertIs(are_right(words, a, b, c, value), True)
                    self.assertIs(slow_right(words, a, b, c, value), True)

    def test_points_87_and_89_they_hold_for_texts(self):
        for words in (DEAR, AAA, ALL_AS, SMALL, LONG, *TWO_LETTERS[::4]):
            costs = [(cost(words, greedy(words, text)), least(words, text)) for text in helpers.texts_of(words, 7)]
            for a, b, c in bounds():
                holds = potentials_for(words, a, b, c) is not None
                if holds:
                    self.assertTrue(all(b * whole <= a * best + c for whole, best in costs))
                if any(b * whole > a * best + c for whole, best in costs):
                    self.assertIs(holds, False)

    def test_points_87_and_90_just_the_right_ones(self):
        for words in MANY_LISTS:
            (a, b), c = worst_ratio(words), worst_excess(words)
            for one, two, three in bounds():
                if one * b < a * two:
                    holds = False
                elif one * b == a * two:
                    # The bound is a multiple of the one with the worst ratio.
                    holds = three * b >= c * two
                else:
                    continue
                self.assertIs(potentials_for(words, one, two, three) is not None, holds, (words, one, two, three))

    def test_the_least_and_the_greatest_bound(self):
        for words in MANY_LISTS:
            self.assertIsNone(potentials_for(words, 0, 1, 0))
            self.assertIsNone(potentials_for(words, 0, 1, 100000))
            self.assertIsNone(potentials_for(words, 1, 1000, 100000))
            self.assertIsNotNone(potentials_for(words, 1000, 1, 100000))
            found = potentials_for(words, 1000, 1000, 100000)
            self.assertIs(found is not None, worst_ratio(words) == (1, 1))


class Wrong(unittest.TestCase):
    wrong = ((0, "words", BAD_LISTS[::3]), (1, "a", NO_A), (2, "b", NO_B), (3, "c", NO_C))

    def test_points_7_and_97(self):
        for good in ((0, 1, 0), (1000, 1000, 100000), (9, 2, 0)):
            check_errors(self, potentials_for, (DEAR, *good), self.wrong)
            for value in (GOOD, None, [], ("", "", 0)):
                check_errors(self, are_right, (DEAR, *good, value), self.wrong)

    def test_point_97_words(self):
        check_errors(self, potentials_for, (DEAR, 9, 2, 0), ((0, "words", BAD_LISTS),))
        check_errors(self, are_right, (DEAR, 9, 2, 0, GOOD), ((0, "words", BAD_LISTS),))

    def test_point_97_other_kinds(self):
        for value in ({}, {1}, 1.0, b"1"):
            for position, name in ((1, "a"), (2, "b"), (3, "c")):
                arguments = [DEAR, 9, 2, 0]
                arguments[position] = value
                self.assertEqual(helpers.told_name(self, potentials_for, arguments), name)


class Repeating(unittest.TestCase):
    def test_point_2(self):
        for words in (DEAR, DOC, EIGHT):
            helpers.check_pure(self, potentials_for, words, 9, 2, 50)
            helpers.check_pure(self, potentials_for, words, 0, 1, 0)
            for value in (GOOD, list(GOOD), [["", "", 0]], (["", "", 0],), None):
                helpers.check_pure(self, are_right, words, 9, 2, 0, value)

    def test_point_3_kinds(self):
        value = potentials_for(DEAR, 9, 2, 0)
        helpers.check_kind(self, tuple, value)
        for triple in value:
            helpers.check_kind(self, tuple, triple)
            helpers.check_kind(self, int, triple[2])


if __name__ == "__main__":
    unittest.main()
