"""The examples of the document, to the letter, and those of the points that tell one (20, 31, 43 and so on)."""

import doctest
import unittest

from greedycuts.comparing import difference
from greedycuts.costs import count_cheapest, first_cheapest, least_cost
from greedycuts.cuts import count_cuts, nth_cut
from greedycuts.desk import Desk
from greedycuts.errors import BadValue, TextError
from greedycuts.leaving import change
from greedycuts.lengths import greatest_waste
from greedycuts.lists import with_word, without_word
from greedycuts.longest import longest_match, match_costs, match_from_end
from greedycuts.matches import free_indexes, occurrences
from greedycuts.optimality import always_best, always_best_from_end, wasteful
from greedycuts.reader import after
from greedycuts.reading import read_words
from greedycuts.rounds import round_sums

LISTS_AND_MATCHES = """
>>> from greedycuts.lists import beginnings_of, cost_of_word, letters_of, reversed_list, with_word, without_word
>>> from greedycuts.matches import free_indexes, longest_at, occurrences, over, words_at, words_ending
>>> words = (("a", 1), ("ab", 1), ("b", 2))
>>> letters_of(words), beginnings_of(words), cost_of_word(words, "b")
('ab', ('', 'a'), 2)
>>> words_at(words, "abb", 0), words_ending(words, "abb", 2), longest_at(words, "abb", 0)
(('a', 'ab'), ('b', 'ab'), 'ab')
>>> occurrences(words, "abb"), over(words, "abb", 1), free_indexes(words, "abb")
([(0, 1), (0, 2), (1, 2), (2, 3)], [(0, 2)], [0, 2, 3])
>>> reversed_list(words)
(('a', 1), ('b', 2), ('ba', 1))
>>> with_word(words, "bab", 3), without_word(words, "ab")
((('a', 1), ('ab', 1), ('b', 2), ('bab', 3)), (('a', 1), ('b', 2)))
>>> beginnings_of(with_word(words, "bab", 3))
('', 'a', 'b', 'ba')
"""

CUTS = """
>>> from greedycuts.cuts import boundaries_of, common_cut, count_cuts, count_with, cut_at, cut_cost, fewest_words
>>> from greedycuts.cuts import index_of_cut, is_cut, is_finer, nth_cut
>>> words = (("a", 1), ("ab", 1), ("b", 1), ("bcd", 2), ("c", 1), ("d", 1))
>>> count_cuts(words, "abcd"), nth_cut(words, "abcd", 1), index_of_cut(words, "abcd", ("ab", "c", "d"))
(3, ('a', 'bcd'), 2)
>>> is_cut(words, "abcd", ("a", "b")), index_of_cut(words, "abcd", ("a", "b")) is None, cut_cost(words, "abcd", ("a", "bcd"))
(False, True, 3)
>>> count_with(words, "abcd", 3), fewest_words(words, "abcd"), boundaries_of(words, "abcd", ("ab", "c", "d"))
(1, 2, (2, 3))
>>> cut_at(words, "abcd", (1,)), cut_at(words, "abcd", (2,)) is None
(('a', 'bcd'), True)
>>> is_finer(words, "abcd", ("a", "b", "c", "d"), ("ab", "c", "d")), common_cut(words, "abcd", ("a", "bcd"), ("ab", "c", "d")) is None
(True, True)
"""

LONGEST_AND_ROWS = """
>>> from greedycuts.longest import longest_match, match_costs, match_from_end, meeting
>>> from greedycuts.rows import canonical, count_texts, first_conflict, followers, is_canonical
>>> words = (("a", 1), ("ab", 1), ("b", 1), ("bcd", 1), ("c", 1), ("d", 1))
>>> longest_match(words, "abcd"), match_from_end(words, "abcd"), match_costs(words, "abcd")
(('ab', 'c', 'd'), ('a', 'bcd'), (3, 2))
>>> meeting(words, "abcd", 1), meeting(words, "abcd", 2)
(4, 2)
>>> is_canonical(words, ("a", "bcd")), first_conflict(words, ("c", "a", "bcd")), canonical(words, ("a", "bcd"))
(False, 1, ('ab', 'c', 'd'))
>>> few = (("a", 1), ("ab", 1), ("b", 1))
>>> followers(few, "a"), count_texts(few, 2, 1), count_texts(few, 3, 2)
(('a', 'ab'), 1, 4)
"""

COSTS_AND_HEIGHTS = """
>>> from greedycuts.costs import certain_words, cost_through, costs_of, count_cheapest, first_cheapest, possible_boundaries, waste
>>> from greedycuts.heights import accepts_heights, is_cheapest
>>> words = (("a", 1), ("ab", 1), ("b", 1), ("bcd", 1), ("c", 1), ("d", 1))
>>> first_cheapest(words, "abcd"), costs_of(words, "abcd"), waste(words, "abcd")
(('a', 'bcd'), (0, 1, 1, 2, 2), 1)
>>> cost_through(words, "abcd", 2), certain_words(words, "abcd")
(3, [(0, 1), (1, 4)])
>>> some = (("a", 1), ("aa", 1), ("aaa", 1))
>>> count_cheapest(some, "aaaa"), first_cheapest(some, "aaaa"), possible_boundaries(some, "aaaa")
(3, ('a', 'aaa'), [1, 2, 3])
>>> is_cheapest(words, "abcd", ("a", "bcd"), (0, 1, 1, 1, 2)), accepts_heights(words, "abcd", (0, 1, 1, 3, 2))
(True, False)
"""

READER_AND_CERTAIN = """
>>> from greedycuts.certain import accepts_contrary, first_contrary, is_certain
>>> from greedycuts.reader import Reader, after, all_held, extensions
>>> words = (("a", 1), ("ab", 1), ("b", 1), ("bcd", 1), ("c", 1), ("d", 1))
>>> after(words, "abc"), after(words, "bc"), after(words, "bca")
((('ab', 'c'), ''), ((), 'bc'), (('b', 'c'), 'a'))
>>> extensions(words, "abb"), all_held(words)
(['bcd'], ['', 'a', 'b', 'bc'])
>>> is_certain(words, "abb", ("ab",)), first_contrary(words, "abb", ("ab", "b"))
(True, 'cd')
>>> first_contrary(words, "abb", ("ab", "bcd")), accepts_contrary(words, "abb", ("ab", "b"), "cd")
('', True)
>>> reader = Reader(words)
>>> reader.read("ab"), reader.read("b"), reader.read("c"), reader.held()
(['ab'], [], [], 'bc')
>>> reader.finish(), reader.read("dbc")
(['b', 'c'], ['d'])
"""

OPTIMALITY = """
>>> from greedycuts.optimality import always_best, always_best_from_end, counterexample, counterexample_from_end
>>> from greedycuts.optimality import greatest_test_waste, test_texts, waste, wasteful
>>> words = (("a", 1), ("ab", 1), ("b", 1), ("bcd", 1), ("c", 1), ("d", 1))
>>> always_best(words), counterexample(words), wasteful(words), always_best_from_end(words)
(False, 'abcd', ['abcd'], True)
>>> other = (("a", 1), ("abc", 1), ("b", 1), ("c", 1), ("cd", 1), ("d", 1))
>>> always_best(other), counterexample_from_end(other)
(True, 'abcd')
>>> dear = (("a", 1), ("aa", 9))
>>> test_texts(dear), wasteful(dear), greatest_test_waste(dear), waste(dear, "aaaa")
(['a', 'aa', 'aaa'], ['aa', 'aaa'], 7, 14)
"""

LEAVING = """
>>> from greedycuts.leaving import accepts_rests, change, first_dearer, greatest_change, is_closed, is_graded, is_kind, rests, shows_more
>>> words = (("a", 1), ("ab", 1), ("b", 2), ("bba", 1), ("bbab", 1))
>>> change(words, "first", "ab"), change(words, "last", "ab"), change(words, "first", "bbab")
(1, 0, 2)
>>> greatest_change(words, "first"), greatest_change(words, "last"), first_dearer(words, "first")
((2, 'bba'), (3, 'bba'), 'ab')
>>> shows_more(words, "first", "ab", (0, 2)), shows_more(words, "first", "ab", (0, 3)), rests(words, "first") is None
(True, False, True)
>>> is_closed(words, "last"), is_closed((("a", 1), ("ab", 1), ("b", 2)), "first"), is_graded(words)
(False, True, True)
>>> kind = (("a", 1), ("ab", 1), ("b", 1), ("bab", 1))
>>> is_kind(kind), rests(kind, "first")
(True, ((), ('b',), (), ('ab',)))
>>> accepts_rests(kind, "first", ((), ("b",), (), ("a", "b")))
False
"""

WORST = """
>>> from greedycuts.pairs import pairs_of, steps_from
>>> from greedycuts.potentials import are_right, potentials_for
>>> from greedycuts.rounds import round_sums
>>> from greedycuts.worst import accepts_answer, answer_for, is_bound, worst_excess, worst_ratio
>>> dear = (("a", 1), ("aa", 9))
>>> worst_ratio(dear), worst_excess(dear), is_bound(dear, 5, 1, 0), is_bound(dear, 4, 1, 1000)
((9, 2), 0, True, False)
>>> pairs_of(dear), steps_from(dear, "a", "", "a")
((('', ''), ('', 'a'), ('a', ''), ('a', 'a')), [('', '', 9, 1), ('', 'a', 9, 0)])
>>> round_sums(dear, ("", "aa", "", ("a", "a")))
(9, 2)
>>> are_right(dear, 9, 2, 0, (("", "", 0), ("", "a", 9), ("a", "", -9), ("a", "a", 0)))
True
>>> worst_ratio((("a", 1), ("aaa", 1), ("aaaa", 1))), worst_excess((("a", 1), ("aaa", 1), ("aaaa", 1)))
((1, 1), 1)
>>> words = (("a", 1), ("ab", 1), ("b", 1), ("bcd", 1), ("c", 1), ("d", 1))
>>> worst_ratio(words), accepts_answer(words, answer_for(words))
((3, 2), True)
"""

TWO_LISTS = """
>>> from greedycuts.bounding import accepts_bound, growth, potentials_for
>>> from greedycuts.comparing import changed_words, common_letters, difference, first_different, greatest_difference
>>> one, other = (("a", 1), ("aa", 9)), (("a", 1),)
>>> difference(one, other, "aaa"), greatest_difference(one, other), growth(one, other, "", "aa")
(7, ('grows', '', 'aa'), 7)
>>> greatest_difference(other, one), potentials_for(other, one)
(('greatest', 0, ''), (('', '', 0), ('', 'a', 1)))
>>> accepts_bound(other, one, 0, (("", "", 0), ("", "a", 1))), accepts_bound(other, one, 0, (("", "", 0), ("", "a", 2)))
(True, False)
>>> changed_words(one, other), first_different(other, one), potentials_for(one, other) is None
(['aa'], 'aa', True)
>>> more = (("a", 1), ("ab", 1), ("b", 1), ("bcd", 1), ("c", 1), ("d", 1))
>>> fewer = (("a", 1), ("b", 1), ("bcd", 1), ("c", 1), ("d", 1))
>>> common_letters(more, fewer), difference(more, fewer, "abcd"), greatest_difference(more, fewer)
('abcd', 1, ('grows', '', 'abcd'))
"""

LENGTHS = """
>>> from greedycuts.lengths import accepts_by_letters, greatest_cost, greatest_waste, potentials_by_letters, worst_text
>>> dear = (("a", 1), ("aa", 9))
>>> [greatest_waste(dear, many) for many in (0, 1, 2, 3, 4)], worst_text(dear, 3)
([0, 0, 7, 7, 14], 'aaa')
>>> [greatest_cost(dear, budget) for budget in (0, 1, 2, 3)]
[0, 1, 9, 10]
>>> potentials_by_letters(dear, 1)
((('', '', 0),), (('a', '', -1), ('a', 'a', 0)))
>>> accepts_by_letters(dear, 1, 0, potentials_by_letters(dear, 1)), accepts_by_letters(dear, 2, 6, potentials_by_letters(dear, 2))
(True, False)
"""

DESK = """
>>> from greedycuts.desk import Desk
>>> from greedycuts.journals import are_right, replayed
>>> from greedycuts.smallest import change
>>> change(("ab", "c", "d"), ("ab", "d")), change(("a", "a"), ("a", "a", "a"))
((1, 1, ()), (2, 0, ('a',)))
>>> words = (("a", 1), ("ab", 1), ("b", 1), ("bcd", 1), ("c", 1), ("d", 1))
>>> desk = Desk(words, "abc")
>>> desk.do(("insert", 3, "d")), desk.row(), desk.cost(), desk.least()
((2, 0, ('d',)), ('ab', 'c', 'd'), 3, 2)
>>> desk.do(("drop", "ab")), desk.row(), desk.word_at(2)
((0, 3, ('a', 'bcd')), ('a', 'bcd'), 1)
>>> desk.do(("remove", 0, 1)), desk.undo(), desk.text()
((0, 1, ()), ('remove', 0, 1), 'abcd')
>>> are_right(words, "abc", desk.records()), are_right(words, "abc", ((("insert", 3, "d"), ("a", "bcd")),))
(True, False)
>>> replayed(words, "abc", desk.journal()).row()
('a', 'bcd')
"""

TEXTS = """
>>> from greedycuts.reading import next_tokens, read_cut, read_words
>>> from greedycuts.writing import cut_text, words_text
>>> words = read_words("ab:3 a b:2")
>>> words
(('a', 1), ('ab', 3), ('b', 2))
>>> words_text(words)
'a ab:3 b:2'
>>> read_cut(words, "ab | a|b"), cut_text(words, ("ab", "a", "b"))
(('ab', 'a', 'b'), 'ab|a|b')
>>> next_tokens("a", "words"), next_tokens("a", "cut")
(['a word', '":"', 'the end'], ['"|"', 'the end'])
"""


class Examples(unittest.TestCase):
    def run_text(self, name, text):
        """Runs the calls of an example, and compares what they return with what stands below them."""
        test = doctest.DocTestParser().get_doctest(text, {}, name, None, None)
        told = []
        failed, tried = doctest.DocTestRunner(verbose=False).run(test, out=told.append)
        self.assertEqual(failed, 0, "".join(told))
        self.assertGreater(tried, 0)

    def test_lists_and_matches(self):
        self.run_text("lists and matches", LISTS_AND_MATCHES)

    def test_without_word_that_is_needed(self):
        with self.assertRaises(BadValue) as caught:
            without_word((("a", 1), ("ab", 1), ("b", 2)), "a")
        self.assertEqual(caught.exception.name, "word")

    def test_point_20(self):
        words = (("a", 1), ("ab", 1), ("b", 2))
        self.assertEqual(occurrences(words, "abb"), [(0, 1), (0, 2), (1, 2), (2, 3)])
        self.assertNotIn(1, free_indexes(words, "abb"))

    def test_cuts(self):
        self.run_text("cuts", CUTS)

    def test_point_31(self):
        words = (("a", 1), ("ab", 1), ("b", 1), ("bcd", 1), ("c", 1), ("d", 1))
        self.assertEqual(count_cuts(words, "abcd"), 3)
        cuts = [nth_cut(words, "abcd", index) for index in (0, 1, 2)]
        self.assertEqual(cuts, [("a", "b", "c", "d"), ("a", "bcd"), ("ab", "c", "d")])

    def test_longest_and_rows(self):
        self.run_text("longest and rows", LONGEST_AND_ROWS)

    def test_point_43(self):
        words = (("a", 1), ("ab", 1), ("b", 1), ("bcd", 1), ("c", 1), ("d", 1))
        self.assertEqual(longest_match(words, "abcd"), ("ab", "c", "d"))
        self.assertEqual(match_from_end(words, "abcd"), ("a", "bcd"))

    def test_costs_and_heights(self):
        self.run_text("costs and heights", COSTS_AND_HEIGHTS)

    def test_point_54(self):
        words = (("a", 1), ("ab", 1), ("b", 1), ("bcd", 1), ("c", 1), ("d", 1))
        self.assertEqual((count_cheapest(words, "abcd"), first_cheapest(words, "abcd")), (1, ("a", "bcd")))
        self.assertEqual(count_cheapest((("a", 1), ("aa", 1), ("aaa", 1)), "aaaa"), 3)

    def test_reader_and_certain(self):
        self.run_text("reader and certain", READER_AND_CERTAIN)

    def test_point_64(self):
        words = (("a", 1), ("ab", 1), ("b", 1), ("bcd", 1), ("c", 1), ("d", 1))
        self.assertEqual([after(words, text) for text in ("abc", "bc", "bca")], [
            (("ab", "c"), ""), ((), "bc"), (("b", "c"), "a"),
        ])

    def test_optimality(self):
        self.run_text("optimality", OPTIMALITY)

    def test_point_74(self):
        words = (("a", 1), ("ab", 1), ("b", 1), ("bcd", 1), ("c", 1), ("d", 1))
        self.assertEqual((always_best(words), wasteful(words), always_best_from_end(words)), (False, ["abcd"], True))
        other = (("a", 1), ("abc", 1), ("b", 1), ("c", 1), ("cd", 1), ("d", 1))
        self.assertEqual((always_best(other), always_best_from_end(other)), (True, False))

    def test_leaving(self):
        self.run_text("leaving", LEAVING)

    def test_point_84(self):
        words = (("a", 1), ("ab", 1), ("b", 2), ("bba", 1), ("bbab", 1))
        self.assertEqual(change(words, "first", "ab"), 1)

    def test_worst(self):
        self.run_text("worst", WORST)

    def test_point_98(self):
        dear = (("a", 1), ("aa", 9))
        self.assertEqual(round_sums(dear, ("", "aa", "", ("a", "a"))), (9, 2))
        words = (("a", 1), ("ab", 1), ("b", 1), ("bcd", 1), ("c", 1), ("d", 1))
        self.assertEqual(round_sums(words, ("", "abcd", "", ("a", "bcd"))), (3, 2))

    def test_two_lists(self):
        self.run_text("two lists", TWO_LISTS)

    def test_point_109(self):
        words = (("a", 1), ("b", 1), ("bcd", 1), ("c", 1), ("d", 1))
        self.assertEqual(match_costs(words, "abcd")[0], 2)
        more = with_word(words, "ab", 1)
        self.assertEqual(longest_match(more, "abcd"), ("ab", "c", "d"))
        self.assertEqual(difference(more, words, "abcd"), 1)

    def test_lengths(self):
        self.run_text("lengths", LENGTHS)

    def test_point_118(self):
        dear = (("a", 1), ("aa", 9))
        self.assertEqual((match_costs(dear, "aaaa")[0], least_cost(dear, "aaaa")), (18, 4))
        self.assertEqual(greatest_waste(dear, 4), 14)
        words = (("a", 1), ("ab", 1), ("b", 1), ("bcd", 1), ("c", 1), ("d", 1))
        self.assertEqual([greatest_waste(words, many) for many in range(5)], [0, 0, 0, 0, 1])

    def test_desk(self):
        self.run_text("desk", DESK)

    def test_point_129(self):
        words = (("a", 1), ("ab", 1), ("b", 1), ("bcd", 1), ("c", 1), ("d", 1))
        desk = Desk(words, "abc")
        self.assertEqual(desk.row(), ("ab", "c"))
        start, removed, inserted = desk.do(("insert", 3, "d"))
        self.assertEqual((start, removed, inserted), (2, 0, ("d",)))
        desk.do(("remove", 0, 1))
        self.assertEqual(desk.row(), ("bcd",))

    def test_texts(self):
        self.run_text("texts", TEXTS)

    def test_text_with_a_problem(self):
        with self.assertRaises(TextError) as caught:
            read_words("ab a ac:0")
        self.assertEqual((caught.exception.column, caught.exception.words), (9, "a cost is from 1 to 9"))

    def test_point_140(self):
        self.assertEqual(read_words("ab:3 a b:2"), (("a", 1), ("ab", 3), ("b", 2)))


if __name__ == "__main__":
    unittest.main()
