"""Tests of greedycuts.lengths: points 2, 3, 7, 8 and 110 to 118."""

import unittest

from greedycuts.lengths import (
    accepts_by_letters, greatest_cost, greatest_waste, potentials_by_letters, text_within, worst_text,
)
from greedycuts.optimality import always_best
from greedycuts.worst import worst_excess, worst_ratio
from tests import helpers
from tests.helpers import (
    AAA, ALL_AS, BAD_LISTS, BAD_NUMBERS, DEAR, DOC, EIGHT, ENDS, LETTERS_ONLY, LISTS, LONG, ONE, SMALL, THREE_LETTERS,
    TWO_LETTERS, check_errors, check_kind, check_pure, cost, greedy, least, slow_steps,
)

MANY_LISTS = (*LISTS, LETTERS_ONLY, *TWO_LETTERS, *THREE_LETTERS)
# Right potentials by letters of DEAR for two letters and the bound 7.
GOOD = (
    (("", "", 0),),
    (("a", "", -1), ("a", "a", 0)),
    (("", "", 7), ("", "a", 8)),
)
NO_ROWS = (
    None, True, 0, "", [], {}, ("", "", 0), (None,), ((),), (("", ""),), (("", "", 0, 0),), (["", "", 0],), ((None, "", 0),),
    (("", None, 0),), (("", "", None),), (("", "", False),), (("", "", "0"),), (("", "", 0.0),), ((b"", "", 0),),
    (([], "", 0),), (("", {}, 0),), ((0, "", 0),), (("", (), 0),), (("", "", (0,)),), [("", "", 0)],
    (("", "", 0), ("", "", 0)), (("", "", 0), ("", "", 1)), (("", "a", 0), ("", "", 0)), (("", "", 0), ("b", "", 0)),
    (("", "", 0), ("aa", "", -50)), (("", "", 0), ("", "aa", -50)), (("", "", 0), None), (("", "", 0), ()),
)
NO_TABLES = (
    None, True, False, 0, 2, 10 ** 40, 1.5, "", "a", (), [], {}, {1}, b"", list(GOOD), [list(row) for row in GOOD],
    GOOD[:2], GOOD[1:], GOOD[::-1], (*GOOD, GOOD[2]), (GOOD,), [GOOD], (None,) * 3, ((),) * 3, ([],) * 3, GOOD[0], "abc",
    (GOOD[0], GOOD[0], GOOD[0]), (GOOD[0], GOOD[2], GOOD[1]), (*GOOD[:2], ()), (GOOD[0], (), GOOD[2]), ((), *GOOD[1:]),
    ((("", "", -1),), *GOOD[1:]), ((("", "", 1),), *GOOD[1:]), ((("a", "", 0),), *GOOD[1:]),
    (GOOD[0], GOOD[1][:1], GOOD[2]), (GOOD[0], GOOD[1][1:], GOOD[2]), (GOOD[0], GOOD[1][::-1], GOOD[2]),
    (GOOD[0], (("a", "", -2), GOOD[1][1]), GOOD[2]), (GOOD[0], (GOOD[1][0], ("a", "a", -1)), GOOD[2]),
    (GOOD[0], (("a", "", 0), GOOD[1][1]), GOOD[2]), (GOOD[0], (GOOD[1][0], ("a", "a", 8)), GOOD[2]),
    (*GOOD[:2], GOOD[2][:1]), (*GOOD[:2], GOOD[2][1:]), (*GOOD[:2], GOOD[2][::-1]), (*GOOD[:2], list(GOOD[2])),
    (*GOOD[:2], (("", "", 6), GOOD[2][1])), (*GOOD[:2], (("", "", 8), GOOD[2][1])),
    (*GOOD[:2], (GOOD[2][0], ("", "a", 7))), (*GOOD[:2], (("", "", 10 ** 40), GOOD[2][1])),
    (*GOOD[:2], (*GOOD[2], ("a", "", 7))), (*GOOD[:2], (*GOOD[2], ("a", "", 10 ** 40))),
)
NO_BOUNDS = (None, True, False, -1, 1001, 10 ** 40, "0", "", (), (0,), [0], 1.0, {})


def next_row(words, row, letters):
    """The pairs to which a step with one of the letters leads, each with its greatest sum."""
    following = {}
    for (held, tail), number in row.items():
        for letter in letters:
            for left, ahead, gain, loss in slow_steps(words, held, tail, letter):
                sums = number + gain - loss
                following[left, ahead] = max(following.get((left, ahead), sums), sums)
    return following


def slow_rows(words, many):
    """For each number of letters the pairs to which so many steps lead, each with its greatest sum."""
    rows = [{("", ""): 0}]
    for _ in range(many):
        rows.append(next_row(words, rows[-1], helpers.texts_of(words, 1)[1:]))
    return tuple(tuple(sorted((*pair, row[pair]) for pair in row)) for row in rows)


def waste_from(words, start, many):
    """The greatest waste of a text that begins so and has so many letters more."""
    row = {("", ""): 0}
    for letter in start:
        row = next_row(words, row, letter)
    for _ in range(many):
        row = next_row(words, row, helpers.texts_of(words, 1)[1:])
    return max(number + cost(words, greedy(words, held)) for (held, tail), number in row.items() if tail == "")


def slow_accepts(words, many, bound, table):
    """Whether a table of the right form is right for the bound, as point 113 tells it."""
    rows = [{row[:2]: row[2] for row in rows} for rows in table]
    if rows[0].get(("", ""), -1) < 0:
        return False
    for before, following in zip(rows, rows[1:]):
        for (held, tail), number in before.items():
            for letter in helpers.texts_of(words, 1)[1:]:
                for left, ahead, gain, loss in slow_steps(words, held, tail, letter):
                    if following.get((left, ahead), number + gain - loss - 1) < number + gain - loss:
                        return False
    return all(number + cost(words, greedy(words, held)) <= bound for (held, tail), number in rows[-1].items() if not tail)


def slow_waste(words, text):
    """The cost of the longest match less the least cost."""
    return cost(words, greedy(words, text)) - least(words, text)


def texts_with(words, many):
    """All texts of exactly so many letters, in alphabetical order."""
    return [text for text in helpers.texts_of(words, many) if len(text) == many]


def changed_tables(table, steps):
    """The table with one number changed by so much, each one after another."""
    for at, row in enumerate(table):
        for index, (held, tail, number) in enumerate(row):
            for by in steps:
                other = (*row[:index], (held, tail, number + by), *row[index + 1:])
                yield (*table[:at], other, *table[at + 1:])


class Wastes(unittest.TestCase):
    def test_points_110_and_112_all_texts(self):
        for words in MANY_LISTS:
            # So many letters for one to four different ones, and for eight.
            most = (9, 8, 7, 5, 4)[min(len(helpers.texts_of(words, 1)), 6) - 2]
            for many in range(most + 1):
                texts = texts_with(words, many)
                wastes = [slow_waste(words, text) for text in texts]
                greatest = max(wastes)
                self.assertEqual(greatest_waste(words, many), greatest, (words, many))
                self.assertEqual(worst_text(words, many), texts[wastes.index(greatest)], (words, many))

    def test_points_110_and_112_letter_a_alone(self):
        for words in (AAA, ALL_AS, DEAR, (("a", 1), ("aaa", 9), ("aaaa", 1)), (("a", 7),)):
            for many in range(31):
                self.assertEqual(greatest_waste(words, many), slow_waste(words, "a" * many))
                self.assertEqual(worst_text(words, many), "a" * many)

    def test_point_112_for_30_letters(self):
        for words in MANY_LISTS:
            text = worst_text(words, 30)
            self.assertEqual(len(text), 30)
            self.assertEqual(slow_waste(words, text), greatest_waste(words, 30))
            for many in (29, 15):
                self.assertEqual(slow_waste(words, worst_text(words, many)), greatest_waste(words, many))
        self.assertEqual(worst_text(DOC, 30), "aa" + "abcd" * 7)
        self.assertEqual(worst_text(LETTERS_ONLY, 30), "a" * 30)
        self.assertEqual(greatest_waste(DOC, 30), 7)

    def test_point_112_no_text_before_it(self):
        # A text that is less at some letter has less waste, in whatever way it goes on.
        for words in (DOC, SMALL, LONG, EIGHT, *TWO_LETTERS[::8]):
            text = worst_text(words, 30)
            greatest = greatest_waste(words, 30)
            letters = helpers.texts_of(words, 1)[1:]
            self.assertEqual(waste_from(words, "", 30), greatest)
            for index in range(30):
                for letter in letters:
                    if letter < text[index]:
                        self.assertLess(waste_from(words, text[:index] + letter, 29 - index), greatest)

    def test_point_112_nothing_is_worst(self):
        for words in (LETTERS_ONLY, ONE, AAA, (("b", 1), ("bc", 1), ("c", 1))):
            if always_best(words):
                first = words[0][0]
                for many in (0, 1, 7, 30):
                    self.assertEqual((greatest_waste(words, many), worst_text(words, many)), (0, first * many))

    def test_point_116(self):
        seen = set()
        for words in MANY_LISTS:
            best = always_best(words)
            seen.add(best)
            wastes = [greatest_waste(words, many) for many in range(8)]
            self.assertIs(max(wastes) == 0, best)
            self.assertEqual(wastes[0], 0)
            if best:
                self.assertEqual(greatest_waste(words, 30), 0)
                self.assertTrue(all(greatest_cost(words, budget) <= budget for budget in range(0, 31, 3)))
        self.assertEqual(seen, {True, False})

    def test_point_94_wastes_and_the_worst_ratio(self):
        for words in MANY_LISTS:
            if worst_ratio(words) == (1, 1):
                self.assertLessEqual(greatest_waste(words, 30), worst_excess(words))


class Potentials(unittest.TestCase):
    def test_points_111_and_113_exactly(self):
        for words in MANY_LISTS:
            for many in (0, 1, 2, 5, 12):
                self.assertEqual(potentials_by_letters(words, many), slow_rows(words, many))
        for words in (DOC, EIGHT, DEAR):
            self.assertEqual(potentials_by_letters(words, 30), slow_rows(words, 30))

    def test_point_114_right_for_the_greatest_waste_alone(self):
        for words in MANY_LISTS:
            for many in (0, 1, 4, 7, 30):
                table = potentials_by_letters(words, many)
                waste = greatest_waste(words, many)
                for bound in (waste, waste + 1, 1000):
                    self.assertIs(accepts_by_letters(words, many, bound, table), True)
                for bound in (waste - 1, 0):
                    if 0 <= bound < waste:
                        self.assertIs(accepts_by_letters(words, many, bound, table), False)

    def test_point_113_the_example(self):
        self.assertEqual(potentials_by_letters(DEAR, 2), GOOD)
        self.assertEqual([accepts_by_letters(DEAR, 2, bound, GOOD) for bound in (0, 6, 7, 8, 1000)], [False, False, True, True, True])
        self.assertEqual([accepts_by_letters(DEAR, many, 7, GOOD) for many in (0, 1, 3, 30)], [False] * 4)
        self.assertEqual(potentials_by_letters(DEAR, 0), ((("", "", 0),),))
        self.assertIs(accepts_by_letters(DEAR, 0, 0, ((("", "", 0),),)), True)
        self.assertIs(accepts_by_letters(DEAR, 0, 0, ((("", "", 1),),)), False)
        self.assertIs(accepts_by_letters(DEAR, 0, 1000, ((("", "", 1000),),)), True)
        self.assertIs(accepts_by_letters(DEAR, 0, 1000, ((("", "", 1001),),)), False)
        self.assertIs(accepts_by_letters(DEAR, 0, 5, ()), False)
        # Without the pair of the beginning nothing is shown.
        for pair in (("a", ""), ("", "a"), ("a", "a")):
            self.assertIs(accepts_by_letters(DEAR, 0, 5, (((*pair, 0),),)), False)

    def test_points_113_and_117_every_value_is_valid(self):
        for value in NO_TABLES:
            self.assertIs(accepts_by_letters(DEAR, 2, 7, value), False, value)
        for row in NO_ROWS:
            for at in (0, 1, 2):
                self.assertIs(accepts_by_letters(DEAR, 2, 1000, (*GOOD[:at], row, *GOOD[at + 1:])), False, row)
            self.assertIs(accepts_by_letters(DEAR, 0, 1000, (row,)), False, row)

    def test_point_113_one_number_changed(self):
        seen = set()
        for words in (DEAR, DOC, SMALL, AAA, *TWO_LETTERS[::9], *THREE_LETTERS[::15]):
            for many in (0, 1, 4):
                waste = greatest_waste(words, many)
                for table in changed_tables(potentials_by_letters(words, many), (-10 ** 30, -1, 1, 10 ** 30)):
                    for bound in (waste, waste + 1):
                        right = slow_accepts(words, many, bound, table)
                        self.assertIs(accepts_by_letters(words, many, bound, table), right)
                        seen.add(right)
        self.assertEqual(seen, {True, False})

    def test_point_113_one_pair_left_out(self):
        for words in (DEAR, DOC, LONG, *TWO_LETTERS[::4]):
            table = potentials_by_letters(words, 4)
            for at, row in enumerate(table):
                for index in range(len(row)):
                    changed = (*table[:at], row[:index] + row[index + 1:], *table[at + 1:])
                    self.assertIs(accepts_by_letters(words, 4, 1000, changed), False)

    def test_point_113_further_pairs(self):
        seen = set()
        for words in (DEAR, SMALL, LONG):
            waste = greatest_waste(words, 3)
            table = potentials_by_letters(words, 3)
            held_letters = sorted({word[:many] for word, _ in words for many in range(len(word))})
            for at, row in enumerate(table):
                known = [triple[:2] for triple in row]
                for held in held_letters:
                    for tail in held_letters:
                        for number in (-99, waste, 99):
                            if (held, tail) not in known:
                                more = tuple(sorted((*row, (held, tail, number))))
                                changed = (*table[:at], more, *table[at + 1:])
                                right = slow_accepts(words, 3, waste, changed)
                                self.assertIs(accepts_by_letters(words, 3, waste, changed), right)
                                seen.add(right)
        self.assertEqual(seen, {True, False})

    def test_point_113_strings_that_begin_no_word(self):
        last = GOOD[2]
        # The last row has no steps, and an open end that is not empty is not looked at.
        for held, tail, right in (("a", "a", True), ("a", "aa", False), ("aa", "a", False), ("b", "a", False), ("a", "b", False)):
            table = (*GOOD[:2], tuple(sorted((*last, (held, tail, 10 ** 9)))))
            self.assertIs(accepts_by_letters(DEAR, 2, 7, table), right)

    def test_point_113_all_numbers_lifted(self):
        for words in (DEAR, DOC, EIGHT):
            waste = greatest_waste(words, 5)
            table = potentials_by_letters(words, 5)
            lifted = tuple(tuple((held, tail, number + 3) for held, tail, number in row) for row in table)
            self.assertEqual([accepts_by_letters(words, 5, waste + more, lifted) for more in (0, 2, 3)], [False, False, True])
            lower = tuple(tuple((held, tail, number - 1) for held, tail, number in row) for row in table)
            self.assertIs(accepts_by_letters(words, 5, 1000, lower), False)

    def test_point_114_no_text_is_above(self):
        for words in (DEAR, SMALL, LONG, *TWO_LETTERS[::3]):
            for many in (3, 6):
                self.assertTrue(all(slow_waste(words, text) <= greatest_waste(words, many) for text in texts_with(words, many)))


class Budgets(unittest.TestCase):
    def test_point_115_all_texts(self):
        for words in (DEAR, SMALL, AAA, ALL_AS, LONG, *TWO_LETTERS[::2]):
            most = 10 if len(helpers.texts_of(words, 1)) == 3 else 30
            # With each letter at least so much more is needed.
            dearest = min(price for _, price in words)
            longest = max(len(word) for word, _ in words)
            costs = [(least(words, text), cost(words, greedy(words, text))) for text in helpers.texts_of(words, most)]
            for budget in range(31):
                if (budget // dearest) * longest <= most:
                    self.assertEqual(greatest_cost(words, budget), max(dear for cheap, dear in costs if cheap <= budget))

    def test_point_115_a_text_shows_it(self):
        for words in (*LISTS, LETTERS_ONLY, *TWO_LETTERS[::5], *THREE_LETTERS[::7]):
            reached = []
            for budget in range(31):
                text = text_within(words, budget)
                self.assertLessEqual(least(words, text), budget)
                reached.append(greatest_cost(words, budget))
                self.assertEqual(cost(words, greedy(words, text)), reached[-1])
            self.assertEqual(reached[0], 0)
            self.assertEqual(reached, sorted(reached))

    def test_point_115_not_more_than_the_worst_ratio_allows(self):
        for words in MANY_LISTS:
            (a, b), c = worst_ratio(words), worst_excess(words)
            for budget in (0, 1, 7, 30):
                self.assertLessEqual(b * greatest_cost(words, budget), a * budget + c)

    def test_point_115_texts_of_any_length(self):
        words = (("a", 9), ("aaa", 9), ("aaaa", 1))
        # Texts of up to 120 letters cost 30, so longer ones are over the budget.
        expected = max(cost(words, greedy(words, "a" * many)) for many in range(121) if least(words, "a" * many) <= 30)
        self.assertEqual(greatest_cost(words, 30), expected)
        for words in (AAA, ALL_AS, DEAR):
            for budget in range(31):
                texts = ["a" * many for many in range(125)]
                expected = max(cost(words, greedy(words, text)) for text in texts if least(words, text) <= budget)
                self.assertEqual(greatest_cost(words, budget), expected)

    def test_point_115_by_hand(self):
        self.assertEqual([greatest_cost(DEAR, budget) for budget in (0, 1, 2, 3, 4, 30)], [0, 1, 9, 10, 18, 135])
        self.assertEqual([greatest_cost(DOC, budget) for budget in (1, 2, 3, 4, 30)], [1, 3, 4, 6, 45])
        self.assertEqual([greatest_cost(ONE, budget) for budget in (0, 8, 9, 17, 18, 30)], [0, 0, 9, 9, 18, 27])
        self.assertEqual(text_within(DOC, 0), "")
        self.assertEqual(text_within(ONE, 8), "")
        self.assertEqual(text_within(ONE, 30), "zzz")


class Wrong(unittest.TestCase):
    def test_points_7_and_117_many(self):
        for function in (greatest_waste, worst_text, potentials_by_letters):
            for many in (0, 30):
                check_errors(self, function, (DOC, many), ((0, "words", BAD_LISTS), (1, "many", BAD_NUMBERS)))

    def test_points_7_and_117_budget(self):
        for function in (greatest_cost, text_within):
            for budget in (0, 30):
                check_errors(self, function, (DOC, budget), ((0, "words", BAD_LISTS), (1, "budget", BAD_NUMBERS)))

    def test_points_7_and_117_bound(self):
        wrong = ((0, "words", BAD_LISTS), (1, "many", BAD_NUMBERS), (2, "bound", NO_BOUNDS))
        for table in (GOOD, None, [], ((("", "", 0),),)):
            for many, bound in ((0, 0), (30, 1000), (2, 7)):
                check_errors(self, accepts_by_letters, (DEAR, many, bound, table), wrong)

    def test_point_117_other_kinds(self):
        for value in ({}, {1}, 1.0, b"1"):
            self.assertEqual(helpers.told_name(self, greatest_waste, (DEAR, value)), "many")
            self.assertEqual(helpers.told_name(self, greatest_cost, (DEAR, value)), "budget")


class Repeating(unittest.TestCase):
    def test_point_2(self):
        for words in (DEAR, DOC, EIGHT):
            for function in (greatest_waste, worst_text, potentials_by_letters, greatest_cost, text_within):
                for number in (0, 3, 30):
                    check_pure(self, function, words, number)
            for value in (GOOD, list(GOOD), [list(row) for row in GOOD], ([["", "", 0]], [], []), None):
                check_pure(self, accepts_by_letters, words, 2, 7, value)

    def test_point_3_kinds(self):
        check_kind(self, int, greatest_waste(DEAR, 3))
        check_kind(self, str, worst_text(DEAR, 3))
        check_kind(self, int, greatest_cost(DEAR, 3))
        check_kind(self, str, text_within(DEAR, 3))
        table = potentials_by_letters(DEAR, 3)
        check_kind(self, tuple, table)
        for row in table:
            check_kind(self, tuple, row)
            for triple in row:
                check_kind(self, tuple, triple)
                check_kind(self, int, triple[2])


if __name__ == "__main__":
    unittest.main()
