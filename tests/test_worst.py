"""Tests of greedycuts.worst: points 2, 7, 8, 87, 90 and 92 to 98."""

import unittest
from math import gcd

from greedycuts.lists import is_list, without_word
from greedycuts.optimality import always_best
from greedycuts.potentials import are_right, potentials_for
from greedycuts.rounds import round_sums
from greedycuts.worst import accepts_answer, answer_for, is_bound, worst_excess, worst_ratio
from tests import helpers
from tests.helpers import (
    AAA, ALL_AS, BAD_LISTS, DEAR, DOC, EIGHT, ENDS, LETTERS_ONLY, LISTS, LONG, ONE, SMALL, THREE_LETTERS, TWO_LETTERS,
    check_errors, cost, greedy, least, slow_right,
)
from tests.test_potentials import NO_A, NO_B, NO_C, NO_POTENTIALS, with_changes
from tests.test_rounds import slow_sums

# Words with an excess, although the worst ratio is 1.
SHORT = (("a", 1), ("aaa", 1), ("aaaa", 1))
ALL_ONE = tuple((word, 1) for word in ("a", "aab", "ab", "abba", "b", "ba", "bba", "bbbb"))
MANY_LISTS = (*LISTS, LETTERS_ONLY, SHORT, ALL_ONE, *TWO_LETTERS, *THREE_LETTERS)
# An accepted answer about DEAR.
GOOD = (
    (9, 2), 0, ("", "aa", "", ("a", "a")), ("aa", ("a", "a")),
    (("", "", 0), ("", "a", 9), ("a", "", -9), ("a", "a", 0)),
)
NOTHING = (
    None, True, False, 0, 1, 2, -1, 10 ** 40, 1.5, "", "a", (), [], {}, {1}, (None,), (0,), ((),), [[]], ("", ""), (0, 0),
    (None, None), (True, True), ("aa",), (0,) * 5, (None,) * 5,
)


def multiplied(words, factor):
    """The word list with all costs multiplied."""
    return tuple((word, price * factor) for word, price in words)


def replaced(index, values):
    """GOOD with one item replaced, by one value after another."""
    return [(*GOOD[:index], value, *GOOD[index + 1:]) for value in values]


def greatest_excess(words, a, b, most):
    """The greatest excess of a text of at most so many letters over the ratio."""
    return max(b * cost(words, greedy(words, text)) - a * least(words, text) for text in helpers.texts_of(words, most))


class Ratio(unittest.TestCase):
    def test_known_ones(self):
        for words, ratio, excess in (
            (DEAR, (9, 2), 0), (DOC, (3, 2), 0), (SHORT, (1, 1), 1), (ONE, (1, 1), 0), (LETTERS_ONLY, (1, 1), 0),
            (ENDS, (1, 1), 0), (AAA, (1, 1), 0), (SMALL, (1, 1), 0), ((("a", 1), ("aaaa", 9)), (9, 4), 0),
            ((("a", 9), ("aaaa", 1)), (1, 1), 0), ((("a", 1), ("aaa", 9), ("aaaa", 1)), (1, 1), 6),
            ((("a", 9), ("ab", 1), ("b", 9)), (1, 1), 0),
        ):
            self.assertEqual((worst_ratio(words), worst_excess(words)), (ratio, excess), words)

    def test_point_98(self):
        self.assertEqual((worst_ratio(DEAR), worst_ratio(DOC)), ((9, 2), (3, 2)))
        self.assertEqual((cost(DEAR, greedy(DEAR, "a" * 30)), least(DEAR, "a" * 30)), (135, 30))

    def test_point_90_in_lowest_terms_and_at_least_1(self):
        for words in MANY_LISTS:
            a, b = worst_ratio(words)
            self.assertEqual(gcd(a, b), 1)
            self.assertGreaterEqual(a, b)
            self.assertGreaterEqual(b, 1)
            self.assertGreaterEqual(worst_excess(words), 0)

    def test_point_90_against_texts(self):
        for words in (*TWO_LETTERS, DEAR, AAA, ALL_AS, SMALL, LONG, SHORT, ALL_ONE):
            a, b = worst_ratio(words)
            self.assertLessEqual(greatest_excess(words, a, b, 7), worst_excess(words))

    def test_point_90_for_some_text_it_is_the_excess(self):
        for words in MANY_LISTS:
            (a, b), excess, _, (text, cut), _ = answer_for(words)
            self.assertEqual(b * cost(words, greedy(words, text)) - a * least(words, text), excess)
            self.assertEqual(cost(words, cut), least(words, text))

    def test_point_92_the_round_makes_it_grow(self):
        for words in MANY_LISTS:
            (a, b), _, (before, cycle, _, _), _, _ = answer_for(words)
            one, other = before + cycle * 4, before + cycle * 44
            more = cost(words, greedy(words, other)) - cost(words, greedy(words, one))
            dearer = least(words, other) - least(words, one)
            # Both grow by the same ratio but for a number that stays the same.
            self.assertLessEqual(b * more, a * dearer + worst_excess(words) + 100 * b)
            self.assertGreaterEqual(b * more + 40 * a, a * dearer)

    def test_points_87_and_90_no_lesser_bound_holds(self):
        for words in MANY_LISTS:
            (a, b), excess = worst_ratio(words), worst_excess(words)
            self.assertIs(is_bound(words, a, b, excess), True)
            self.assertIs(is_bound(words, a, b, 100000), True)
            if excess > 0:
                self.assertIs(is_bound(words, a, b, excess - 1), False)
                self.assertIs(is_bound(words, a, b, 0), False)
            many = 1000 // a
            self.assertIs(is_bound(words, a * many - 1, b * many, 100000), False)
            self.assertIs(is_bound(words, a * many, b * many, excess * many), True)
            if b * many < 1000:
                self.assertIs(is_bound(words, a * many, b * many + 1, 100000), False)

    def test_points_87_and_89(self):
        for words in (DEAR, DOC, SHORT, *TWO_LETTERS[::5]):
            for a in range(6):
                for b in range(1, 5):
                    for c in (0, 1, 5, 40):
                        self.assertIs(is_bound(words, a, b, c), potentials_for(words, a, b, c) is not None)

    def test_edges_of_bounds(self):
        self.assertEqual((is_bound(DEAR, 5, 1, 0), is_bound(DEAR, 4, 1, 1000)), (True, False))
        for words in (ONE, DOC, DEAR, EIGHT):
            self.assertIs(is_bound(words, 0, 1, 0), False)
            self.assertIs(is_bound(words, 1000, 1, 100000), True)
        self.assertIs(is_bound(ONE, 1, 1, 0), True)
        self.assertIs(is_bound(ONE, 1000, 1000, 100000), True)
        self.assertIs(is_bound(DOC, 1000, 1000, 100000), False)

    def test_point_94(self):
        seen = set()
        for words in MANY_LISTS:
            never = worst_ratio(words) == (1, 1) and worst_excess(words) == 0
            self.assertIs(always_best(words), never)
            seen.add((worst_ratio(words) == (1, 1), never))
        self.assertEqual(seen, {(True, True), (True, False), (False, False)})

    def test_point_95_multiplied_costs(self):
        for words in MANY_LISTS:
            for factor in (2, 3, 9):
                more = multiplied(words, factor)
                if is_list(more):
                    self.assertEqual(worst_ratio(more), worst_ratio(words))
                    self.assertEqual(worst_excess(more), factor * worst_excess(words))
        self.assertEqual(worst_excess(multiplied(SHORT, 9)), 9)

    def test_point_95_dropped_words(self):
        self.assertEqual(worst_ratio(without_word(DOC, "ab")), (1, 1))
        self.assertEqual(worst_ratio(without_word(DOC, "bcd")), (1, 1))
        words = (("a", 1), ("aa", 9), ("aaa", 1))
        self.assertEqual((worst_ratio(words), worst_ratio(without_word(words, "aaa"))), ((1, 1), (9, 2)))


class Answers(unittest.TestCase):
    def test_point_93_all_are_accepted(self):
        for words in MANY_LISTS:
            answer = answer_for(words)
            self.assertIs(accepts_answer(words, answer), True)
            self.assertEqual(answer[:2], (worst_ratio(words), worst_excess(words)))

    def test_point_93_by_the_plain_ways(self):
        for words in MANY_LISTS:
            (a, b), excess, value, (text, cut), table = answer_for(words)
            gain, loss = slow_sums(words, *value)
            self.assertEqual(gain * b, loss * a)
            self.assertEqual(round_sums(words, value), (gain, loss))
            self.assertEqual("".join(cut), text)
            self.assertEqual(b * cost(words, greedy(words, text)) - a * cost(words, cut), excess)
            self.assertEqual([triple[:2] for triple in table], sorted({triple[:2] for triple in table}))
            self.assertIs(slow_right(words, a, b, excess, table), True)
            if excess > 0:
                self.assertIs(slow_right(words, a, b, excess - 1, table), False)
                self.assertIs(are_right(words, a, b, excess - 1, table), False)

    def test_point_93_the_example(self):
        self.assertIs(accepts_answer(DEAR, GOOD), True)
        self.assertIs(accepts_answer(ONE, ((1, 1), 0, ("", "z", "", ("z",)), ("", ()), (("", "", 0),))), True)

    def test_point_93_others_are_accepted_too(self):
        rounds = (
            ("a", "aa", "", ("a", "a")), ("a", "aa", "a", ("a", "a")), ("", "aa" * 20, "", ("a",) * 40),
            ("a" * 50, "aaaa", "a" * 50, ("a",) * 4),
        )
        shown = (("", ()), ("a" * 30, ("a",) * 30), ("a" * 4000, ("a",) * 4000))
        more = (*GOOD[4], ("a", "aa", 10 ** 50))
        for value in (*replaced(2, rounds), *replaced(3, shown), *replaced(4, [more])):
            self.assertIs(accepts_answer(DEAR, value), True, value)

    def test_point_93_one_part_changed(self):
        ratios = (
            *NOTHING, [9, 2], (18, 4), (9,), (9, 2, 0), (2, 9), (9, 1), (10, 2), (8, 2), (5, 1), (9, 4), (-9, -2), (9, -2),
            (-9, 2), (9, 0), (0, 9), (1, 0), ("9", 2), (9, "2"), (9, None), (9, True), (9, 2.0), (9, (2,)), ((9, 2),),
            (10 ** 40, 1), (9 * 10 ** 40, 2 * 10 ** 40), (1, 1),
        )
        excesses = [value for value in NOTHING if value != 0 or value is False] + [(0,), [0], "0", 7, -9, 0.0]
        rounds = (
            *NOTHING, list(GOOD[2]), GOOD[2][:3], (*GOOD[2], ()), ("", "aa", "", ("aa",)), ("", "a", "", ("a",)),
            ("", "", "", ()), ("", "aa", "", ("a",)), ("", "aa", "", ["a", "a"]), ("", "aa", "a", ("a", "a")),
            ("", "aaa", "", ("a",) * 3), ("", "aaaa", "", ("a", "a", "aa")), ("b", "aa", "", ("a", "a")),
        )
        shown = (
            *NOTHING, list(GOOD[3]), ("aa",), ("aa", ("a", "a"), ()), ("aa", ("aa",)), ("a", ("a",)), ("aa", ["a", "a"]),
            ("aa", ("a",)), ("aa", ("a", "a", "a")), ("aaa", ("a", "a")), ("b", ("b",)), (None, ()), ((), ()), ("", None),
            ("", ""), ("", [""]), ("", ("",)), ("aa", "aa"), (["a", "a"], ("a", "a")), ("aa", ("a", None)),
            ("aa", ("a", ["a"])), ("a" * 31, ("a",) * 31), (2, (1, 1)), ("A", ("A",)),
        )
        for index, values in enumerate((ratios, excesses, rounds, shown, (*NOTHING, *NO_POTENTIALS))):
            for value in replaced(index, values):
                self.assertIs(accepts_answer(DEAR, value), False, value)
        for value in replaced(4, with_changes(GOOD[4], -1)):
            self.assertIs(accepts_answer(DEAR, value), False, value)

    def test_point_93_the_ratio_is_in_lowest_terms(self):
        # All else would be right for these.
        doubled = tuple((held, tail, 2 * number) for held, tail, number in GOOD[4])
        self.assertIs(are_right(DEAR, 18, 4, 0, doubled), True)
        self.assertIs(accepts_answer(DEAR, ((18, 4), *GOOD[1:4], doubled)), False)
        rest = (0, ("", "z", "", ("z",)), ("", ()), (("", "", 0),))
        for ratio in ((2, 2), (-1, -1), (0, 0), (1, -1)):
            self.assertIs(accepts_answer(ONE, (ratio, *rest)), False)
        self.assertIs(accepts_answer(ONE, ((1, 1), *rest)), True)

    def test_points_93_and_97_every_value_is_valid(self):
        for value in (*NOTHING, list(GOOD), GOOD[:4], GOOD[1:], (*GOOD, ()), GOOD[::-1], (GOOD,), [GOOD], ((),) * 5, ("",) * 5):
            self.assertIs(accepts_answer(DEAR, value), False, value)

    def test_point_93_answers_about_other_lists(self):
        for words in (DEAR, DOC, SHORT, LONG, EIGHT, ALL_ONE):
            for other in (ONE, DOC, DEAR, LETTERS_ONLY, EIGHT, SHORT, multiplied(SHORT, 2), (("a", 1), ("aa", 8))):
                if words != other:
                    answer = answer_for(other)
                    told = (worst_ratio(words), worst_excess(words)) == answer[:2]
                    if accepts_answer(words, answer):
                        self.assertTrue(told)
        self.assertIs(accepts_answer(SHORT, answer_for(ONE)), False)
        self.assertIs(accepts_answer(multiplied(SHORT, 2), answer_for(SHORT)), False)

    def test_point_93_a_greater_excess_is_not_shown(self):
        for words in (SHORT, DOC, DEAR, LONG):
            ratio, excess, value, shown, _ = answer_for(words)
            more = potentials_for(words, *ratio, excess + 1)
            self.assertIs(are_right(words, *ratio, excess + 1, more), True)
            self.assertIs(accepts_answer(words, (ratio, excess + 1, value, shown, more)), False)
            self.assertIs(accepts_answer(words, (ratio, excess, value, shown, more)), True)


class Wrong(unittest.TestCase):
    words = (0, "words", BAD_LISTS)

    def test_points_7_and_97_words(self):
        for function in (worst_ratio, worst_excess, answer_for):
            check_errors(self, function, (DOC,), (self.words,))
        for value in (GOOD, None, 3, [], (None,) * 5):
            check_errors(self, accepts_answer, (DOC, value), (self.words,))

    def test_points_7_and_97_bounds(self):
        wrong = ((0, "words", BAD_LISTS[::3]), (1, "a", NO_A), (2, "b", NO_B), (3, "c", NO_C))
        for good in ((0, 1, 0), (1000, 1000, 100000), (9, 2, 0)):
            check_errors(self, is_bound, (DEAR, *good), wrong)


class Repeating(unittest.TestCase):
    def test_point_2(self):
        for words in (DOC, DEAR, EIGHT):
            for function in (worst_ratio, worst_excess, answer_for):
                helpers.check_pure(self, function, words)
            helpers.check_pure(self, is_bound, words, 3, 2, 0)
            for value in (GOOD, list(GOOD), [[9, 2]], ([9, 2], [], [], [], []), None):
                helpers.check_pure(self, accepts_answer, words, value)

    def test_point_3_kinds(self):
        for words in (DOC, DEAR, ONE):
            helpers.check_kind(self, tuple, worst_ratio(words))
            helpers.check_kind(self, int, worst_excess(words))
            helpers.check_kind(self, bool, is_bound(words, 3, 2, 0))
            answer = answer_for(words)
            for value in (answer, answer[0], answer[2], answer[2][3], answer[3], answer[3][1], answer[4], answer[4][0]):
                helpers.check_kind(self, tuple, value)


if __name__ == "__main__":
    unittest.main()
