"""Tests of greedycuts.rounds: points 2, 7, 8, 91, 92, 96 and 97."""

import unittest

from greedycuts.rounds import round_sums
from greedycuts.worst import worst_ratio
from tests import helpers
from tests.helpers import (
    AAA, ALL_AS, BAD_LISTS, DEAR, DOC, LETTERS_ONLY, LONG, ONE, SMALL, TWO_LETTERS, check_errors, cost, greedy, least,
    read_slowly,
)

GOOD = ("a", "bcda", "a", ("a", "bcd"))
# What is no accepted round of DOC: GOOD with one thing changed, and values of all kinds.
NO_ROUNDS = (
    None, True, False, 0, 4, 10 ** 40, 1.5, "", "abcd", (), [], {}, {1}, list(GOOD), GOOD[:3], (*GOOD, ()), (GOOD,), [GOOD],
    (None,) * 4, (0,) * 4, (True,) * 4, ("",) * 4, ("", "", "", ()), ("a", "", "a", ()), ("a", "", "", ()),
    (None, *GOOD[1:]), (1, *GOOD[1:]), (("a",), *GOOD[1:]), (["a"], *GOOD[1:]), ("", *GOOD[1:]), ("b", *GOOD[1:]),
    ("z", *GOOD[1:]), ("ab", *GOOD[1:]), ("A", *GOOD[1:]), ("za", *GOOD[1:]), (b"a", *GOOD[1:]),
    ("a", None, "a", ("a", "bcd")), ("a", 4, "a", ("a", "bcd")), ("a", ("bcda",), "a", ("a", "bcd")),
    ("a", ["b", "c", "d", "a"], "a", ("a", "bcd")), ("a", "", "a", ("a", "bcd")), ("a", "bcd", "a", ("a", "bcd")),
    ("a", "bcdab", "a", ("a", "bcd")), ("a", "bcdz", "a", ("a", "bcd")), ("a", "bcdabcda", "a", ("a", "bcd")),
    ("a", "bcda", None, ("a", "bcd")), ("a", "bcda", 0, ("a", "bcd")), ("a", "bcda", "", ("a", "bcd")),
    ("a", "bcda", "b", ("a", "bcd")), ("a", "bcda", ("a",), ("a", "bcd")), ("a", "bcda", "aa", ("a", "bcd")),
    ("a", "bcda", "a", None), ("a", "bcda", "a", "abcd"), ("a", "bcda", "a", ["a", "bcd"]), ("a", "bcda", "a", ()),
    ("a", "bcda", "a", ("a",)), ("a", "bcda", "a", ("bcd", "a")), ("a", "bcda", "a", ("a", "bcd", "a")),
    ("a", "bcda", "a", ("abcd",)), ("a", "bcda", "a", ("a", "bcd", "")), ("a", "bcda", "a", ("a", "b", "cd")),
    ("a", "bcda", "a", ("a", None)), ("a", "bcda", "a", ("a", 3)), ("a", "bcda", "a", ("a", ["bcd"])),
    ("a", "bcda", "a", ("a", ("bcd",))), ("a", "bcda", "a", (("a", "bcd"),)), ("a", "bcda", "a", ("a", b"bcd")),
    ("a", "bcda", "a", ({}, "bcd")), ("a", "bcda", "a", ("a", True)),
)


def slow_sums(words, before, cycle, tail, row):
    """The gain and the loss of a round of the right form if it is accepted, otherwise None."""
    held = read_slowly(words, "", before)[1]
    same = held == read_slowly(words, "", before + cycle)[1]
    if not cycle or not before.endswith(tail) or not same or tail + cycle != "".join(row) + tail:
        return None
    return cost(words, read_slowly(words, held, cycle)[0]), cost(words, row)


def cases(words, letters, most):
    """All rounds with texts of few letters and rows of few words, accepted ones and others."""
    texts = helpers.texts_of(words, letters)
    for before in texts:
        for cycle in texts:
            for tail in texts:
                for row in helpers.rows_of(words, most):
                    # Other rows and tails have another number of letters than the cycle, or other ends.
                    if len("".join(row)) == len(cycle) or row == ():
                        yield before, cycle, tail, row


class Rounds(unittest.TestCase):
    def test_point_91_all_short_rounds(self):
        accepted = 0
        for words, letters, most in ((DEAR, 5, 5), (AAA, 5, 5), (SMALL, 2, 2), (ALL_AS, 6, 4), (TWO_LETTERS[5], 2, 2)):
            for value in cases(words, letters, most):
                expected = slow_sums(words, *value)
                self.assertEqual(round_sums(words, value), expected, value)
                accepted += expected is not None
        self.assertGreater(accepted, 100)

    def test_point_91_rounds_of_all_cuts(self):
        for words in (LONG, SMALL, *TWO_LETTERS[::8]):
            for cycle in helpers.texts_of(words, 5)[1:]:
                for before in ("", "b", "abba", cycle):
                    for cut in helpers.all_cuts(words, cycle):
                        value = (before, cycle, "", cut)
                        self.assertEqual(round_sums(words, value), slow_sums(words, *value))

    def test_point_91_with_a_tail(self):
        self.assertEqual(round_sums(DOC, GOOD), (3, 2))
        self.assertEqual(round_sums(DOC, ("", "abcd", "", ("a", "bcd"))), (3, 2))
        self.assertEqual(round_sums(DOC, ("bc", "dabc", "bc", ("bcd", "a"))), None)
        self.assertEqual(round_sums(DOC, ("abc", "dabc", "bc", ("bcd", "a"))), (3, 2))
        self.assertEqual(round_sums(DEAR, ("a", "aa", "a", ("aa",))), (9, 9))
        # Any end of what comes before is a tail, also one that begins no word.
        self.assertEqual(round_sums(DEAR, ("aaaaa", "aa", "aaaaa", ("a", "a"))), (9, 2))
        self.assertEqual(round_sums(DOC, ("dcab", "cab", "cab", ("c", "ab"))), (2, 2))

    def test_edges(self):
        self.assertEqual(round_sums(ONE, ("", "z", "", ("z",))), (9, 9))
        self.assertEqual(round_sums(ONE, ("zz", "zzz", "z", ("z",) * 3)), (27, 27))
        self.assertEqual(round_sums(LETTERS_ONLY, ("", "abcdefgh", "", tuple("abcdefgh"))), (36, 36))
        self.assertEqual(round_sums(DEAR, ("", "a", "", ("a",))), None)

    def test_points_91_and_96_any_length(self):
        self.assertEqual(round_sums(DEAR, ("", "aa" * 1000, "", ("a",) * 2000)), (9000, 2000))
        self.assertEqual(round_sums(DEAR, ("a" * 3001, "a" * 3000, "a" * 101, ("aa",) * 1500)), (13500, 13500))
        self.assertIsNone(round_sums(DEAR, ("a" * 3001, "a" * 3001, "a" * 101, ("a",) * 3001)))
        self.assertEqual(round_sums(DOC, ("abcd" * 20 + "a", "bcda" * 20, "a", ("a", "bcd") * 20)), (60, 40))
        self.assertEqual(round_sums(ONE, ("z" * 31, "z" * 31, "z" * 31, ("z",) * 31)), (279, 279))

    def test_point_92_no_round_exceeds_the_worst_ratio(self):
        for words in (DEAR, AAA, ALL_AS):
            a, b = worst_ratio(words)
            for value in cases(words, 4, 4):
                sums = round_sums(words, value)
                if sums is not None:
                    self.assertLessEqual(sums[0] * b, sums[1] * a)

    def test_point_92_rounds_can_be_repeated(self):
        for words, value in ((DOC, GOOD), (DEAR, ("a", "aa", "a", ("a", "a"))), (LONG, ("", "abba", "", ("a", "bba")))):
            before, cycle, _, _ = value
            gain, loss = round_sums(words, value)
            texts = [before + cycle * many for many in range(8)]
            wholes = [cost(words, greedy(words, text)) for text in texts]
            leasts = [least(words, text) for text in texts]
            self.assertEqual([two - one for one, two in zip(wholes, wholes[1:])], [gain] * 7)
            self.assertLessEqual(leasts[-1] - leasts[0], loss * 7 + 9)


class Evidence(unittest.TestCase):
    def test_points_91_and_97_every_value_is_valid(self):
        self.assertEqual(round_sums(DOC, GOOD), (3, 2))
        for value in NO_ROUNDS:
            self.assertIsNone(round_sums(DOC, value), value)


class Wrong(unittest.TestCase):
    def test_points_7_and_97(self):
        for value in (GOOD, *NO_ROUNDS):
            check_errors(self, round_sums, (DOC, value), ((0, "words", BAD_LISTS[::5]),))
        check_errors(self, round_sums, (DOC, GOOD), ((0, "words", BAD_LISTS),))


class Repeating(unittest.TestCase):
    def test_point_2(self):
        for value in (GOOD, list(GOOD), ("a", "bcda", "a", ["a", "bcd"]), None):
            helpers.check_pure(self, round_sums, DOC, value)

    def test_point_3_kinds(self):
        helpers.check_kind(self, tuple, round_sums(DOC, GOOD))
        for number in round_sums(DOC, GOOD):
            helpers.check_kind(self, int, number)


if __name__ == "__main__":
    unittest.main()
