"""Tests of greedycuts.longest: points 2, 7, 32 to 34 and 40 to 43."""

import unittest

from greedycuts.lists import is_list, reversed_list
from greedycuts.longest import longest_match, match_costs, match_from, match_from_end, meeting
from tests import helpers
from tests.helpers import (
    ALL_AS, BAD_LISTS, BAD_NUMBERS, BAD_TEXTS, DEAR, DOC, EIGHT, LETTERS_ONLY, LISTS, LONG, ONE, check_errors,
)

THIRTY = "a" * 30
LONG_TEXTS = (
    (EIGHT, "ab" * 15), (EIGHT, "bbbaabab" * 3 + "baabba"), (LONG, "abbab" * 6), (DOC, "abcdbcdabb" * 3), (ALL_AS, THIRTY),
)


def cases():
    """Word lists with texts whose cuts can be listed."""
    for words in (*LISTS, *helpers.TWO_LETTERS[::3]):
        for text in helpers.texts_of(words, 5 if len(words) < 5 else 4):
            yield words, text


def ends(cut, index):
    """The ends of a cut of the rest from the index on, by their definition."""
    return {index + len("".join(cut[:many])) for many in range(len(cut) + 1)}


class FromTheBeginning(unittest.TestCase):
    def test_points_6_and_32(self):
        for words, text in cases():
            self.assertEqual(longest_match(words, text), helpers.the_longest_match(words, text))

    def test_point_32_long_texts(self):
        for words, text in LONG_TEXTS:
            found = longest_match(words, text)
            self.assertEqual("".join(found), text)
            self.assertIsNone(helpers.conflict(words, found))
        self.assertEqual(longest_match(ALL_AS, THIRTY), ("aaaa",) * 7 + ("aa",))
        self.assertEqual(longest_match(ONE, "z" * 30), ("z",) * 30)
        self.assertEqual(longest_match(LETTERS_ONLY, "hgfedcba"), tuple("hgfedcba"))

    def test_the_empty_text(self):
        for words in LISTS:
            self.assertEqual((longest_match(words, ""), match_from_end(words, "")), ((), ()))
            self.assertEqual((match_costs(words, ""), match_from(words, "", 0)), ((0, 0), ()))
            self.assertEqual(meeting(words, "", 0), 0)

    def test_point_41_renaming(self):
        names = str.maketrans("ab", "ba")
        for words, text in cases():
            if {word for word, _ in words if len(word) == 1} == {"a", "b"}:
                renamed = tuple(sorted((word.translate(names), price) for word, price in words))
                expected = tuple(word.translate(names) for word in longest_match(words, text))
                self.assertEqual(longest_match(renamed, text.translate(names)), expected)

    def test_point_41_costs(self):
        for words, text in cases():
            other = tuple((word, 10 - price) for word, price in words)
            self.assertTrue(is_list(other))
            self.assertEqual(longest_match(other, text), longest_match(words, text))
            self.assertEqual(match_from_end(other, text), match_from_end(words, text))


class FromTheEnd(unittest.TestCase):
    def test_point_33(self):
        self.assertEqual(match_from_end(DOC, "abcd"), ("a", "bcd"))
        self.assertEqual(match_from_end(ALL_AS, "a" * 6), ("aa", "aaaa"))
        self.assertEqual(match_from_end(ALL_AS, THIRTY), ("aa",) + ("aaaa",) * 7)
        for words, text in (*cases(), *LONG_TEXTS):
            turned = longest_match(reversed_list(words), text[::-1])
            self.assertEqual(match_from_end(words, text), tuple(word[::-1] for word in turned[::-1]))

    def test_point_33_each_word_is_the_longest(self):
        for words, text in cases():
            cut = match_from_end(words, text)
            for many in range(1, len(cut) + 1):
                made = "".join(cut[:many])
                ending = [word for word, _ in words if made.endswith(word)]
                self.assertEqual(cut[many - 1], max(ending, key=len))

    def test_costs_of_both(self):
        self.assertEqual(match_costs(DOC, "abcd"), (3, 2))
        self.assertEqual(match_costs(DEAR, "a" * 5), (19, 19))
        self.assertEqual(match_costs(helpers.ENDS, "abcd"), (2, 3))
        for words, text in (*cases(), *LONG_TEXTS):
            both = helpers.cost(words, longest_match(words, text)), helpers.cost(words, match_from_end(words, text))
            self.assertEqual(match_costs(words, text), both)


class Rests(unittest.TestCase):
    def test_point_34_match_of_the_rest(self):
        for words, text in (*cases(), *LONG_TEXTS):
            for index in range(len(text) + 1):
                self.assertEqual(match_from(words, text, index), longest_match(words, text[index:]))

    def test_point_34_meeting(self):
        self.assertEqual((meeting(DOC, "abcd", 1), meeting(DOC, "abcd", 2)), (4, 2))
        self.assertEqual((meeting(ALL_AS, THIRTY, 1), meeting(ALL_AS, THIRTY, 28)), (30, 28))
        for words, text in (*cases(), *LONG_TEXTS):
            for index in range(len(text) + 1):
                one, other = longest_match(words, text), longest_match(words, text[index:])
                both = ends(one, 0) & ends(other, index)
                self.assertEqual(meeting(words, text, index), min(both))

    def test_point_34_the_same_words_from_the_meeting_on(self):
        for words, text in LONG_TEXTS:
            for index in range(len(text) + 1):
                met = meeting(words, text, index)
                self.assertLessEqual(met, len(text))
                behind = match_from(words, text, met)
                for cut in (longest_match(words, text), match_from(words, text, index)):
                    self.assertEqual(cut[len(cut) - len(behind):], behind)

    def test_point_40_only_the_end_changes(self):
        for words in (*LISTS, *helpers.TWO_LETTERS[::5]):
            for text in helpers.texts_of(words, 3):
                given, _ = helpers.read_slowly(words, "", text)
                for other in helpers.texts_of(words, 2):
                    self.assertEqual(longest_match(words, text + other)[:len(given)], tuple(given))


class Wrong(unittest.TestCase):
    words = (0, "words", BAD_LISTS)
    text = (1, "text", BAD_TEXTS)

    def test_points_7_and_42_words_and_text(self):
        for function in (longest_match, match_from_end, match_costs):
            check_errors(self, function, (DOC, "abcd"), (self.words, self.text))

    def test_points_7_and_42_index(self):
        for function in (match_from, meeting):
            for text, good in (("abcd", 0), ("abcd", 4), ("", 0), (THIRTY, 30)):
                wrong = (self.words, self.text, (2, "index", (*BAD_NUMBERS, len(text) + 1)))
                check_errors(self, function, (DOC, text, good), wrong)


class Repeating(unittest.TestCase):
    def test_point_2(self):
        for function in (longest_match, match_from_end, match_costs):
            helpers.check_pure(self, function, DOC, "abcdab")
        for function in (match_from, meeting):
            helpers.check_pure(self, function, DOC, "abcdab", 1)

    def test_point_3_kinds(self):
        for function in (longest_match, match_from_end, match_costs):
            helpers.check_kind(self, tuple, function(DOC, "abcd"))
        helpers.check_kind(self, tuple, match_from(DOC, "abcd", 2))
        helpers.check_kind(self, int, meeting(DOC, "abcd", 1))


if __name__ == "__main__":
    unittest.main()
