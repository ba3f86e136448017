"""Tests of greedycuts.reading: points 2, 3, 7, 8, 130 to 135 and 137 to 140."""

import re
import unittest
from itertools import product

from greedycuts.cuts import is_cut
from greedycuts.lists import is_list
from greedycuts.reading import next_tokens, read_cut, read_words
from greedycuts.writing import cut_text, words_text
from tests import helpers
from tests.helpers import (
    AAA, BAD_LINES, BAD_LISTS, DOC, EIGHT, LISTS, LONG, MIXED, ONE, SMALL, THREE_LETTERS, TWO_LETTERS, check_errors,
    check_kind, check_pure, greedy, plain_scan, texts_of, told_problem,
)

# A token of each kind, by the letters with which GRAMMARS tells them.
TOKENS = {"w": "ab", "n": "7", ":": ":", "|": "|"}
NAMES = {"w": "a word", "n": "a number", ":": '":"', "|": '"|"', "e": "the end"}
GRAMMARS = {"words": "(w(:n)?)*e", "cut": r"(w(\|w)*)?e"}


def can_begin(kind, row):
    """Whether the row of tokens begins a text of the grammar: it does if it can be ended with a few more."""
    return any(
        re.fullmatch(GRAMMARS[kind], row + "".join(more)) for many in range(3) for more in product("wn:|e", repeat=many)
    )


def choices(kind, row):
    """What can come behind the tokens."""
    return [NAMES[one] for one in "wn:|e" if can_begin(kind, row + one)]


def grammar_problem(kind, row):
    """The number of the first token that cannot come at its place and the words of the problem, or None."""
    for index, one in enumerate(row):
        if not can_begin(kind, row[:index + 1]):
            told = choices(kind, row[:index])
            listed = told[0] if len(told) == 1 else ", ".join(told[:-1]) + " or " + told[-1]
            return index, "expected " + listed
    return None


def row_of(tokens):
    """The letters of the tokens."""
    return "".join(characters if kind == "sign" else kind[0] for kind, characters, _ in tokens)


def plain_words(text):
    """The word list of a text, or its problem, a pair of a column and words."""
    tokens = plain_scan(text)
    if isinstance(tokens, tuple):
        return tokens
    problem = grammar_problem("words", row_of(tokens))
    if problem is not None:
        return tokens[problem[0]][2], problem[1]
    entries, places = [], []
    for kind, characters, column in tokens:
        if kind == "word":
            if len(entries) == 8:
                return column, "there are at most 8 words"
            if characters in dict(entries):
                return column, "this word stands already"
            entries.append((characters, 1))
            places.append(column)
        if kind == "number":
            if characters.lstrip("0") not in list("123456789"):
                return column, "a cost is from 1 to 9"
            entries[-1] = (entries[-1][0], int(characters))
    if not entries:
        return len(text) + 1, "there is no word"
    for (word, _), column in zip(entries, places):
        if not set(word) <= set(dict(entries)):
            return column, "a letter of this word is no word"
    return sorted(entries)


def plain_cut(words, text):
    """The words of a cut of a text, or its problem."""
    tokens = plain_scan(text)
    if isinstance(tokens, tuple):
        return tokens
    problem = grammar_problem("cut", row_of(tokens))
    if problem is not None:
        return tokens[problem[0]][2], problem[1]
    cut = []
    for kind, characters, column in tokens:
        if kind == "word":
            cut.append(characters)
            if characters not in dict(words):
                return column, "this is no word"
            if len("".join(cut)) > 30:
                return column, "a text has at most 30 letters"
    return cut


class Next(unittest.TestCase):
    def test_point_133_all_short_rows_of_tokens(self):
        for kind in ("words", "cut"):
            for many in range(6):
                for tokens in product("wn:|", repeat=many):
                    row = "".join(tokens)
                    text = " ".join(TOKENS[one] for one in row)
                    problem = grammar_problem(kind, row)
                    if problem is None:
                        self.assertEqual(next_tokens(text, kind), choices(kind, row), (kind, text))
                    else:
                        column = [token[2] for token in plain_scan(text)][problem[0]]
                        self.assertEqual(told_problem(self, next_tokens, text, kind), (column, problem[1]))

    def test_point_133_by_hand(self):
        self.assertEqual(next_tokens("", "words"), ["a word", "the end"])
        self.assertEqual(next_tokens("a", "words"), ["a word", '":"', "the end"])
        self.assertEqual(next_tokens("a:", "words"), ["a number"])
        self.assertEqual(next_tokens("a:1", "words"), ["a word", "the end"])
        self.assertEqual(next_tokens(" ", "cut"), ["a word", "the end"])
        self.assertEqual(next_tokens("a", "cut"), ['"|"', "the end"])
        self.assertEqual(next_tokens("a|", "cut"), ["a word"])
        self.assertEqual(next_tokens("a|b", "cut"), ['"|"', "the end"])

    def test_point_133_what_the_tokens_say_does_not_matter(self):
        self.assertEqual(next_tokens("xy xy xy:0 z:999999", "words"), ["a word", "the end"])
        self.assertEqual(next_tokens("a " * 100, "words"), ["a word", '":"', "the end"])
        self.assertEqual(next_tokens("abcd|" * 39 + "zzzz", "cut"), ['"|"', "the end"])

    def test_point_133_the_words_of_the_problems(self):
        for text, kind, expected in (
            (":", "words", (1, "expected a word or the end")), ("a|", "words", (2, 'expected a word, ":" or the end')),
            ("a:b", "words", (3, "expected a number")), ("a : :", "words", (5, "expected a number")),
            ("a:1 2", "words", (5, "expected a word or the end")), ("a 1", "words", (3, 'expected a word, ":" or the end')),
            ("a:1:", "words", (4, "expected a word or the end")), ("1", "cut", (1, "expected a word or the end")),
            ("|", "cut", (1, "expected a word or the end")), ("a b", "cut", (3, 'expected "|" or the end')),
            ("a||b", "cut", (3, "expected a word")), ("a|1", "cut", (3, "expected a word")),
            ("a:1", "cut", (2, 'expected "|" or the end')), ("a|b|c 7", "cut", (7, 'expected "|" or the end')),
        ):
            self.assertEqual(told_problem(self, next_tokens, text, kind), expected)

    def test_point_131_the_tokens_come_first(self):
        for kind in ("words", "cut"):
            for text, expected in (
                (": : abcde", (5, "a word has at most 4 letters")), ("1 1234567", (3, "a number has at most 6 digits")),
                ("|| #", (4, "no token begins here")), ("a b 1 2 : A", (11, "no token begins here")),
            ):
                self.assertEqual(told_problem(self, next_tokens, text, kind), expected)

    def test_points_7_and_139(self):
        no_kinds = ("", "word", "Words", "cuts", "words ", None, True, 0, b"cut", ["cut"], ("cut",), {}, {"cut"}, 1.5)
        for good in (("", "words"), ("a", "cut"), (" " * 200, "cut")):
            check_errors(self, next_tokens, good, ((0, "text", BAD_LINES), (1, "kind", no_kinds)))
        for text in ("A", "abcde", ":", "||", "a:1 2"):
            for kind in no_kinds:
                self.assertEqual(helpers.told_name(self, next_tokens, (text, kind)), "kind")


class Lists(unittest.TestCase):
    def check(self, text):
        """Reads a text and compares with reading it in a plain way; returns the problem or None."""
        expected = plain_words(text)
        if isinstance(expected, tuple):
            self.assertEqual(told_problem(self, read_words, text), expected, text)
            return expected[1]
        found = read_words(text)
        self.assertEqual(found, tuple(expected), text)
        self.assertIs(is_list(found), True)
        return None

    def test_points_131_to_134_all_short_texts(self):
        seen = {
            self.check("".join(row)) for many in range(6) for row in product("ab0:| "[:6 if many < 5 else 5], repeat=many)
        }
        self.assertIn(None, seen)
        self.assertIn('expected a word, ":" or the end', seen)

    def test_point_134_rows_of_entries(self):
        entries = ("a", "b", "ab", "a:1", "a:2", "b:9", "ab:03", "b:0", "ac:10", "c", "abc:000", "bca")
        seen = {self.check(" ".join(row)) for many in range(4) for row in product(entries, repeat=many)}
        self.assertEqual(seen, {
            None, "there is no word", "this word stands already", "a cost is from 1 to 9",
            "a letter of this word is no word",
        })

    def test_point_134_costs(self):
        for number in ("1", "2", "9", "01", "09", "000001", "000009"):
            self.assertEqual(read_words("a:" + number), (("a", int(number)),))
        for number in ("0", "00", "000000", "10", "010", "99", "999999", "000010", "100000"):
            self.assertEqual(told_problem(self, read_words, "a:" + number), (3, "a cost is from 1 to 9"))
            self.assertEqual(told_problem(self, read_words, " b a : " + number), (8, "a cost is from 1 to 9"))
        self.assertEqual(read_words("a b:1 c:9"), (("a", 1), ("b", 1), ("c", 9)))

    def test_point_134_at_most_8_words(self):
        self.assertEqual(read_words("a b c d e f g h:2"), tuple((letter, 1) for letter in "abcdefg") + (("h", 2),))
        self.assertEqual(read_words("aaaa aaa aa a b ba:3 ab c")[-1], ("c", 1))
        for ninth in ("i", "a", "ab", "xyz"):
            for rest in ("", ":0", " a", ":7 b:99"):
                text = "a b c d e f g h " + ninth + rest
                self.assertEqual(told_problem(self, read_words, text), (17, "there are at most 8 words"))
        # What stands ahead of it is told first.
        self.assertEqual(told_problem(self, read_words, "a b c d e f g h:0 i"), (17, "a cost is from 1 to 9"))
        self.assertEqual(told_problem(self, read_words, "a b c d e f g a i"), (15, "this word stands already"))

    def test_point_134_the_same_word_twice(self):
        for text, column in (("a a", 3), ("a:1 b a:1", 7), ("ab ab a a b", 4), ("a a:0", 3), ("x y x y", 5)):
            self.assertEqual(told_problem(self, read_words, text), (column, "this word stands already"))
        self.assertEqual(told_problem(self, read_words, "a:0 a"), (3, "a cost is from 1 to 9"))

    def test_point_134_no_word(self):
        for many in (0, 1, 7, 200):
            self.assertEqual(told_problem(self, read_words, " " * many), (many + 1, "there is no word"))

    def test_point_134_letters_that_are_no_words(self):
        for text, column in (
            ("ab", 1), ("a ab", 3), ("ab a", 1), ("a b abc", 5), (" ba bc b", 2), ("a b ab ac ad", 8), ("aa", 1), ("a:2 bb:3 b cc", 12),
        ):
            self.assertEqual(told_problem(self, read_words, text), (column, "a letter of this word is no word"))
        # All other problems come first, also those that stand behind.
        self.assertEqual(told_problem(self, read_words, "ab a b:0"), (8, "a cost is from 1 to 9"))
        self.assertEqual(told_problem(self, read_words, "ab a a"), (6, "this word stands already"))
        # A letter can stand behind the words that have it.
        self.assertEqual(read_words("ba b a"), (("a", 1), ("b", 1), ("ba", 1)))

    def test_points_131_133_and_134_which_problem_comes_first(self):
        for text, expected in (
            ("a a : : abcde", (9, "a word has at most 4 letters")), ("a:0 a #", (7, "no token begins here")),
            ("a:0 a:", (7, "expected a number")), ("ab ab |", (7, 'expected a word, ":" or the end')),
            ("a b c d e f g h i :", (20, "expected a number")), ("ab a: b", (7, "expected a number")),
            ("a:0 1234567", (5, "a number has at most 6 digits")), ("ab:", (4, "expected a number")),
            ("a:   ", (6, "expected a number")), ("1 A", (3, "no token begins here")),
        ):
            self.assertEqual(told_problem(self, read_words, text), expected)

    def test_point_140(self):
        self.assertEqual(read_words("ab:3 a b:2"), (("a", 1), ("ab", 3), ("b", 2)))
        self.assertEqual(told_problem(self, read_words, "ab a ac:0"), (9, "a cost is from 1 to 9"))

    def test_point_137_what_changes_nothing(self):
        for words in (*LISTS, *TWO_LETTERS[::4], *THREE_LETTERS[::6]):
            self.assertEqual(read_words(words_text(words)), words)
            entries = words_text(words).split()
            spread = " ".join(re.sub(":", "  :  ", entry) for entry in entries)
            zeros = " ".join(re.sub(":", ":00000", entry) for entry in entries)
            ones = " ".join(entry if ":" in entry else entry + ":1" for entry in entries)
            for text in (
                " ".join(entries[::-1]), "   ".join(entries), "  " + " ".join(entries) + "    ", spread, zeros, ones,
                " ".join(entries[1:] + entries[:1]), re.sub(":1", ": 0001", ones),
            ):
                self.assertEqual(read_words(text), words, text)

    def test_point_137_entries_directly_side_by_side(self):
        self.assertEqual(read_words("a:2b:3ab:1"), (("a", 2), ("ab", 1), ("b", 3)))
        self.assertEqual(read_words("a:2b"), (("a", 2), ("b", 1)))

    def test_point_130_texts_of_200_characters(self):
        text = "a:2 " + " " * 195 + "b"
        self.assertEqual(read_words(text), (("a", 2), ("b", 1)))
        self.assertEqual(told_problem(self, read_words, "a" + " " * 198 + ":"), (201, "expected a number"))
        self.assertEqual(told_problem(self, read_words, "a:" + " " * 197 + "0"), (200, "a cost is from 1 to 9"))

    def test_points_7_and_139(self):
        check_errors(self, read_words, ("a",), ((0, "text", BAD_LINES),))
        check_errors(self, read_words, (" " * 199 + "a",), ((0, "text", BAD_LINES),))


class Cuts(unittest.TestCase):
    def check(self, words, text):
        """Reads a text and compares with reading it in a plain way; returns the problem or None."""
        expected = plain_cut(words, text)
        if isinstance(expected, tuple):
            self.assertEqual(told_problem(self, read_cut, words, text), expected, text)
            return expected[1]
        found = read_cut(words, text)
        self.assertEqual(found, tuple(expected), text)
        self.assertIs(is_cut(words, "".join(found), found), True)
        return None

    def test_points_131_to_133_and_135_all_short_texts(self):
        seen = {
            self.check(SMALL, "".join(row))
            for many in range(6) for row in product("ab0:| "[:6 if many < 5 else 5], repeat=many)
        }
        self.assertEqual(seen, {
            None, "this is no word", "a word has at most 4 letters", 'expected "|" or the end', "expected a word",
            "expected a word or the end",
        })

    def test_point_135_no_word(self):
        for text, column in (("c", 1), ("a|c", 3), ("ba", 1), ("a|ab|ba|c", 6), ("a | aa", 5), ("ab|abab|a", 4)):
            self.assertEqual(told_problem(self, read_cut, SMALL, text), (column, "this is no word"))
        self.assertEqual(told_problem(self, read_cut, ONE, "z|zz"), (3, "this is no word"))

    def test_point_135_30_and_31_letters(self):
        self.assertEqual(read_cut(SMALL, "|".join(["ab"] * 15)), ("ab",) * 15)
        self.assertEqual(read_cut(SMALL, "|".join("a" * 30)), ("a",) * 30)
        self.assertEqual(read_cut(EIGHT, "|".join(["abab"] * 7 + ["ab"])), ("abab",) * 7 + ("ab",))
        for text, column in (
            ("|".join("a" * 31), 61), ("|".join("a" * 40), 61), ("|".join(["ab"] * 16), 46), ("|".join(["ab"] * 15 + ["b", "c"]), 46),
        ):
            self.assertEqual(told_problem(self, read_cut, SMALL, text), (column, "a text has at most 30 letters"))
        self.assertEqual(
            told_problem(self, read_cut, EIGHT, "|".join(["abab"] * 7 + ["baa"])), (36, "a text has at most 30 letters"),
        )

    def test_point_135_which_comes_first(self):
        thirty = "|".join(["ab"] * 15)
        # The word that is too much is no word either.
        self.assertEqual(told_problem(self, read_cut, SMALL, thirty + "|c"), (46, "this is no word"))
        self.assertEqual(told_problem(self, read_cut, SMALL, "c|" + thirty + "|a"), (1, "this is no word"))
        self.assertEqual(told_problem(self, read_cut, SMALL, thirty + "|a|c"), (46, "a text has at most 30 letters"))
        self.assertEqual(told_problem(self, read_cut, SMALL, thirty + "|c|"), (48, "expected a word"))
        self.assertEqual(told_problem(self, read_cut, SMALL, "c|ba||a"), (6, "expected a word"))
        self.assertEqual(told_problem(self, read_cut, SMALL, "c|ba||abcde"), (7, "a word has at most 4 letters"))
        self.assertEqual(told_problem(self, read_cut, SMALL, "c a"), (3, 'expected "|" or the end'))
        self.assertEqual(told_problem(self, read_cut, SMALL, "c|"), (3, "expected a word"))

    def test_points_132_and_136_the_empty_cut(self):
        for many in (0, 1, 200):
            self.assertEqual(read_cut(SMALL, " " * many), ())

    def test_point_137_what_changes_nothing(self):
        for words in (DOC, SMALL, AAA, EIGHT, LONG, MIXED):
            for text in texts_of(words, 4):
                for cut in helpers.all_cuts(words, text):
                    written = cut_text(words, cut)
                    self.assertEqual(read_cut(words, written), cut)
                    self.assertEqual(read_cut(words, "  " + written.replace("|", " |  ") + " "), cut)

    def test_point_138(self):
        read = {}
        for row in helpers.rows_of(SMALL, 4):
            read.setdefault("".join(read_cut(SMALL, "|".join(row))), []).append(row)
        for text, rows in read.items():
            self.assertTrue(all(is_cut(SMALL, text, row) for row in rows))
            self.assertIn(greedy(SMALL, text), rows)

    def test_point_140(self):
        self.assertEqual(read_cut(SMALL, "ab | a|b"), ("ab", "a", "b"))

    def test_points_7_and_139(self):
        wrong = ((0, "words", BAD_LISTS), (1, "text", BAD_LINES))
        for good in ((SMALL, "ab|a"), (ONE, ""), (ONE, "z" + " " * 199)):
            check_errors(self, read_cut, good, wrong)
        for text in ("A", "abcde", "||", "x"):
            self.assertEqual(helpers.told_name(self, read_cut, (None, text)), "words")


class Repeating(unittest.TestCase):
    def test_point_2(self):
        check_pure(self, read_words, "ab:3 a b:2")
        check_pure(self, read_cut, SMALL, "ab|a")
        for kind in ("words", "cut"):
            check_pure(self, next_tokens, "a", kind)
            check_pure(self, next_tokens, "", kind)

    def test_point_3_kinds(self):
        check_kind(self, tuple, read_words("ab:3 a b:2"))
        for entry in read_words("ab:3 a b:2"):
            check_kind(self, tuple, entry)
            check_kind(self, int, entry[1])
        check_kind(self, tuple, read_cut(SMALL, "ab|a"))
        check_kind(self, list, next_tokens("a", "cut"))


if __name__ == "__main__":
    unittest.main()
