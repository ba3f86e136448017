"""Tests of greedycuts.bounding: points 2, 3, 7, 8, 100 to 103, 105 and 108."""

import unittest

from greedycuts.bounding import accepts_bound, growth, potentials_for
from greedycuts.comparing import greatest_difference
from tests import helpers
from tests.helpers import (
    BAD_LISTS, BAD_TEXTS, DEAR, DOC, EIGHT, LETTERS_ONLY, LONG, MIXED, ONE, SMALL, TWO_LISTS, WITH_GREATEST,
    both_after, check_errors, check_kind, check_pure, common, common_texts, cost, greedy, slow_befores,
    slow_difference,
)

PLAIN = (("a", 1),)
# The example of the document: the lists PLAIN and DEAR, the bound 0.
GOOD = (("", "", 0), ("", "a", 1))
NO_TABLES = (
    None, True, False, 0, 1, 10 ** 40, 1.5, "", "a", (), [], {}, {1}, b"", list(GOOD), [list(row) for row in GOOD],
    GOOD[:1], GOOD[1:], (GOOD,), [GOOD], (*GOOD, None), (*GOOD, ()), (*GOOD, GOOD[0]), (*GOOD, GOOD[1]), (None, None),
    (*GOOD, ("", "", 1)), (*GOOD, ("", "a", 0)), (GOOD[0], GOOD[0], GOOD[1]), ((), ()),
    (["", "", 0], GOOD[1]), (("", ""), GOOD[1]), (("", "", 0, 0), GOOD[1]), ((None, "", 0), GOOD[1]),
    (("", None, 0), GOOD[1]), (("", "", None), GOOD[1]), (("", "", False), GOOD[1]), (("", "", "0"), GOOD[1]),
    (("", "", 0.0), GOOD[1]), (("", "", (0,)), GOOD[1]), ((0, "", 0), GOOD[1]), (("", 0, 0), GOOD[1]),
    ((("",), "", 0), GOOD[1]), (([], "", 0), GOOD[1]), (({}, "", 0), GOOD[1]), ((b"", "", 0), GOOD[1]),
    (("", "", -1), GOOD[1]), (("", "", 1), GOOD[1]), (("", "", 10 ** 40), GOOD[1]), (("", "", -(10 ** 40)), GOOD[1]),
    (GOOD[0], ("", "a", 0)), (GOOD[0], ("", "a", 2)), (GOOD[0], ("", "a", 10 ** 40)), (GOOD[0], ("", "a", True)),
    (GOOD[0], ("", "A", 1)), (GOOD[0], ("a", "", 1)), (GOOD[0], ("", "b", 1)), (GOOD[0], ("", "aa", 1)),
    (*GOOD, ("a", "", -50)), (*GOOD, ("a", "a", -50)), (*GOOD, ("", "aa", -50)), (*GOOD, ("b", "", -50)),
    (*GOOD, ("", "b", -50)), (*GOOD, ("", "A", -50)),
)
NO_BOUNDS = (None, True, False, -1000001, 1000001, 10 ** 40, -(10 ** 40), "0", "", (), (0,), [0], 1.0, {})
NO_PIECES = (*BAD_TEXTS[:-2], "a" * 401, "a" * 1000, "c", "ac", b"a", 1.5)


def slow_accepts(first, second, bound, table):
    """Whether a table of the right form is right for the bound, as point 102 tells it."""
    numbers = {(one, other): number for one, other, number in table}
    if numbers.get(("", ""), -1) < 0:
        return False
    for (one, other), number in numbers.items():
        if number + cost(first, greedy(first, one)) - cost(second, greedy(second, other)) > bound:
            return False
        for letter in common(first, second):
            ahead, gained = both_after(first, second, (one, other), letter)
            if ahead not in numbers or numbers[ahead] < number + gained:
                return False
    return True


def bounded():
    """Two lists whose differences have a greatest one, with what is told of it."""
    found = []
    for one, other in TWO_LISTS:
        told = greatest_difference(one, other)
        if told[0] == "greatest":
            found.append((one, other, told[1]))
    return found


def begin(words):
    """The beginnings of the words."""
    return sorted({word[:many] for word, _ in words for many in range(len(word))})


class Told(unittest.TestCase):
    def test_point_105_each_pair_with_its_greatest_gains(self):
        for one, other, _ in bounded():
            gains = {}
            for text in common_texts(one, other, 12 if len(common(one, other)) == 1 else 7):
                pair, gained = both_after(one, other, ("", ""), text)
                gains[pair] = max(gains.get(pair, gained), gained)
            table = potentials_for(one, other)
            pairs = [row[:2] for row in table]
            self.assertEqual(pairs, sorted(slow_befores(one, other)))
            for first, second, number in table:
                # Shorter texts may not yet have the greatest gains.
                self.assertLessEqual(gains.get((first, second), number), number)
            self.assertIs(slow_accepts(one, other, greatest_difference(one, other)[1], table), True)

    def test_point_105_exactly(self):
        for many, one, other in WITH_GREATEST:
            if len(common(one, other)) == 1:
                gains = {}
                for letters in range(40):
                    pair, gained = both_after(one, other, ("", ""), "a" * letters)
                    gains[pair] = max(gains.get(pair, gained), gained)
                self.assertEqual(potentials_for(one, other), tuple(sorted((*pair, gains[pair]) for pair in gains)))
            elif many < 6:
                gains = {}
                for text in common_texts(one, other, 9 if len(common(one, other)) == 2 else 7):
                    pair, gained = both_after(one, other, ("", ""), text)
                    gains[pair] = max(gains.get(pair, gained), gained)
                self.assertEqual(potentials_for(one, other), tuple(sorted((*pair, gains[pair]) for pair in gains)))

    def test_point_105_right_for_the_greatest_and_for_greater_bounds(self):
        for one, other, number in bounded():
            table = potentials_for(one, other)
            for bound in (number, number + 1, number + 100, 1000000):
                self.assertIs(accepts_bound(one, other, bound, table), True)
            for bound in (number - 1, number - 7, -1000000):
                self.assertIs(accepts_bound(one, other, bound, table), False)

    def test_point_105_by_hand(self):
        self.assertEqual(potentials_for(PLAIN, DEAR), GOOD)
        self.assertEqual(potentials_for(DEAR, DEAR), (("", "", 0), ("a", "a", 0)))
        self.assertEqual(potentials_for(SMALL, ONE), (("", "", 0),))
        self.assertEqual(potentials_for(LETTERS_ONLY, LETTERS_ONLY), (("", "", 0),))
        self.assertEqual(potentials_for((("a", 2), ("b", 3)), (("a", 2), ("ab", 9), ("b", 3))), (
            ("", "", 0), ("", "a", 2),
        ))

    def test_point_105_none_if_they_grow(self):
        for one, other in TWO_LISTS:
            grows = greatest_difference(one, other)[0] == "grows"
            self.assertIs(potentials_for(one, other) is None, grows)
        self.assertIsNone(potentials_for(DEAR, PLAIN))


class Judge(unittest.TestCase):
    def test_point_102_the_example(self):
        self.assertIs(accepts_bound(PLAIN, DEAR, 0, GOOD), True)
        self.assertIs(accepts_bound(PLAIN, DEAR, 1000000, GOOD), True)
        self.assertIs(accepts_bound(PLAIN, DEAR, -1, GOOD), False)
        self.assertIs(accepts_bound(PLAIN, DEAR, -1000000, GOOD), False)
        self.assertIs(accepts_bound(DEAR, PLAIN, 0, GOOD), False)
        self.assertIs(accepts_bound(PLAIN, DEAR, 1, (GOOD[0], ("", "a", 2))), True)

    def test_points_102_and_108_every_value_is_valid(self):
        for value in NO_TABLES:
            self.assertIs(accepts_bound(PLAIN, DEAR, 0, value), False, value)
        for value in NO_TABLES:
            if value not in (GOOD, GOOD[:1]):
                self.assertIs(accepts_bound(SMALL, ONE, 0, value), False, value)

    def test_point_102_one_number_changed(self):
        seen = set()
        for one, other, bound in bounded():
            table = potentials_for(one, other)
            for index, (first, second, number) in enumerate(table):
                for by in (-10 ** 30, -9, -1, 1, 9, 10 ** 30):
                    changed = (*table[:index], (first, second, number + by), *table[index + 1:])
                    for more in (0, 1, 9):
                        right = slow_accepts(one, other, bound + more, changed)
                        self.assertIs(accepts_bound(one, other, bound + more, changed), right)
                        seen.add(right)
        self.assertEqual(seen, {True, False})

    def test_point_102_one_pair_left_out_or_twice(self):
        for one, other, bound in bounded():
            table = potentials_for(one, other)
            for index, row in enumerate(table):
                changed = table[:index] + table[index + 1:]
                self.assertIs(accepts_bound(one, other, bound, changed), False)
                for number in (row[2], row[2] - 1, row[2] + 1):
                    self.assertIs(accepts_bound(one, other, bound, (*table, (*row[:2], number))), False)
                    self.assertIs(accepts_bound(one, other, bound, ((*row[:2], number), *table)), False)

    def test_point_102_in_any_sequence(self):
        for one, other, bound in bounded():
            table = potentials_for(one, other)
            self.assertIs(accepts_bound(one, other, bound, table[::-1]), True)
            self.assertIs(accepts_bound(one, other, bound, (*table[1:], table[0])), True)

    def test_point_102_all_numbers_lifted(self):
        for one, other, bound in bounded():
            table = tuple((*row[:2], row[2] + 4) for row in potentials_for(one, other))
            self.assertEqual([accepts_bound(one, other, bound + more, table) for more in (0, 3, 4)], [False, False, True])
            table = tuple((*row[:2], row[2] - 1) for row in potentials_for(one, other))
            self.assertIs(accepts_bound(one, other, bound + 100, table), False)

    def test_point_102_further_pairs_that_no_text_leads_to(self):
        seen = set()
        for one, other, bound in bounded()[::2]:
            table = potentials_for(one, other)
            known = [row[:2] for row in table]
            for first in begin(one):
                for second in begin(other):
                    if (first, second) in known:
                        continue
                    for number in (-99, 0, 99):
                        more = (*table, (first, second, number))
                        right = slow_accepts(one, other, bound, more)
                        self.assertIs(accepts_bound(one, other, bound, more), right)
                        seen.add(right)
        self.assertEqual(seen, {True, False})

    def test_point_102_what_the_readers_can_hold(self):
        # With a further letter in one list its beginnings may have it, although no common text does.
        one, other = (("a", 1), ("x", 1), ("xa", 1), ("xaa", 1)), PLAIN
        table = potentials_for(one, other)
        self.assertEqual(table, (("", "", 0),))
        more = (*table, ("x", "", -5), ("xa", "", -5))
        self.assertIs(accepts_bound(one, other, 0, more), True)
        self.assertIs(slow_accepts(one, other, 0, more), True)
        for first, second in (("xaa", ""), ("a", ""), ("xx", ""), ("", "a"), ("x", "x"), ("ax", "")):
            self.assertIs(accepts_bound(one, other, 0, (*more, (first, second, -9))), False)

    def test_point_102_no_common_letter(self):
        for one, other in ((SMALL, ONE), (ONE, SMALL)):
            for number, bound, right in ((0, 0, True), (3, 3, True), (3, 2, False), (-1, 0, False), (0, -1, False)):
                self.assertIs(accepts_bound(one, other, bound, (("", "", number),)), right)
        self.assertIs(accepts_bound(SMALL, ONE, 0, (("", "", 0), ("a", "", -1))), True)
        self.assertIs(accepts_bound(SMALL, ONE, 0, (("", "", 0), ("a", "", 0))), False)

    def test_point_102_numbers_of_any_size(self):
        big = 10 ** 60
        self.assertIs(accepts_bound(PLAIN, DEAR, 1000000, (("", "", 999999), ("", "a", 1000000))), True)
        self.assertIs(accepts_bound(PLAIN, DEAR, 1000000, (("", "", 1000000), ("", "a", 1000001))), True)
        self.assertIs(accepts_bound(PLAIN, DEAR, 1000000, (("", "", 1000001), ("", "a", 1000002))), False)
        self.assertIs(accepts_bound(PLAIN, DEAR, 1000000, (("", "", big), ("", "a", big + 1))), False)

    def test_point_103_no_text_is_above(self):
        for one, other, bound in bounded():
            table = potentials_for(one, other)
            self.assertIs(accepts_bound(one, other, bound, table), True)
            self.assertTrue(all(slow_difference(one, other, text) <= bound for text in common_texts(one, other, 6)))


class Growth(unittest.TestCase):
    def test_point_101(self):
        seen = set()
        for one, other in TWO_LISTS[::4]:
            texts = common_texts(one, other, 3)
            for before in texts:
                for cycle in texts[1:]:
                    pair, _ = both_after(one, other, ("", ""), before)
                    ahead, gained = both_after(one, other, pair, cycle)
                    expected = gained if ahead == pair else None
                    self.assertEqual(growth(one, other, before, cycle), expected)
                    seen.add(None if expected is None else (expected > 0) - (expected < 0))
        self.assertEqual(seen, {None, -1, 0, 1})

    def test_point_101_by_hand(self):
        self.assertEqual(growth(DEAR, PLAIN, "", "aa"), 7)
        self.assertEqual(growth(PLAIN, DEAR, "", "aa"), -7)
        self.assertIsNone(growth(DEAR, PLAIN, "", "a"))
        self.assertEqual(growth(DEAR, PLAIN, "a", "aaaa"), 14)
        self.assertEqual(growth(DEAR, DEAR, "", "aa"), 0)
        self.assertIsNone(growth(DEAR, DEAR, "", "aaa"))

    def test_point_108_pieces_of_400_letters(self):
        self.assertEqual(growth(DEAR, PLAIN, "a" * 400, "a" * 400), 1400)
        self.assertEqual(growth(DEAR, PLAIN, "a" * 399, "aa" * 200), 1400)
        self.assertIsNone(growth(DEAR, PLAIN, "a" * 400, "a" * 399))
        self.assertEqual(growth(DOC, (("a", 1), ("b", 1), ("bcd", 1), ("c", 1), ("d", 1)), "", "abcd" * 100), 100)
        long = "abbaabb" * 57
        pair, _ = both_after(EIGHT, LONG, ("", ""), long)
        ahead, gained = both_after(EIGHT, LONG, pair, long)
        self.assertEqual(growth(EIGHT, LONG, long, long), gained if ahead == pair else None)


class Wrong(unittest.TestCase):
    lists = ((0, "first", BAD_LISTS), (1, "second", BAD_LISTS))

    def test_points_7_and_108(self):
        check_errors(self, potentials_for, (DOC, SMALL), self.lists)
        for bound in (-1000000, 0, 1000000):
            for table in (GOOD, None, []):
                wrong = ((0, "first", BAD_LISTS[::4]), (1, "second", BAD_LISTS[::4]), (2, "bound", NO_BOUNDS))
                check_errors(self, accepts_bound, (PLAIN, DEAR, bound, table), wrong)
        check_errors(self, accepts_bound, (PLAIN, DEAR, 0, GOOD), self.lists)

    def test_points_7_and_108_pieces(self):
        wrong = (*self.lists, (2, "before", NO_PIECES), (3, "cycle", ("", *NO_PIECES)))
        check_errors(self, growth, (DOC, SMALL, "ab", "ba"), wrong)
        check_errors(self, growth, (SMALL, DOC, "", "a" * 400), wrong[2:])
        check_errors(self, growth, (MIXED, DOC, "a" * 400, "abc"), ((2, "before", ("d",)), (3, "cycle", ("ad", ""))))

    def test_point_108_no_common_letter(self):
        # No cycle can be right then, but the before is looked at first.
        for cycle in ("", "a", "z", None):
            self.assertEqual(helpers.told_name(self, growth, (SMALL, ONE, "", cycle)), "cycle")
            self.assertEqual(helpers.told_name(self, growth, (SMALL, ONE, "a", cycle)), "before")


class Repeating(unittest.TestCase):
    def test_point_2(self):
        for one, other in TWO_LISTS[:12]:
            check_pure(self, potentials_for, one, other)
            table = potentials_for(one, other)
            for value in (table, list(table or ()), [["", "", 0]], (["", "", 0],), None, {"a": 1}):
                check_pure(self, accepts_bound, one, other, 3, value)
        check_pure(self, growth, DEAR, PLAIN, "a", "aa")

    def test_point_3_kinds(self):
        table = potentials_for(PLAIN, DEAR)
        check_kind(self, tuple, table)
        for row in table:
            check_kind(self, tuple, row)
            check_kind(self, int, row[2])
        check_kind(self, int, growth(DEAR, PLAIN, "", "aa"))


if __name__ == "__main__":
    unittest.main()
