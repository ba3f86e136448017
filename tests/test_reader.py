"""Tests of greedycuts.reader: points 2, 7, 8, 55 to 57 and 61 to 64."""

import unittest

from greedycuts.longest import longest_match
from greedycuts.reader import Reader, after, all_held, extensions
from tests import helpers
from tests.helpers import (
    ALL_AS, BAD_LISTS, BAD_TEXTS, DEAR, DOC, EIGHT, LETTERS_ONLY, LISTS, LONG, ONE, TWO_LETTERS, check_errors,
    read_slowly,
)

THIRTY = "a" * 30
LONG_TEXTS = (
    (EIGHT, "ab" * 15), (EIGHT, "bbbaabab" * 3 + "baabba"), (LONG, "abbab" * 6), (DOC, "abcdbcdabb" * 3), (ALL_AS, THIRTY),
    (ONE, "z" * 30), (DEAR, THIRTY), (LETTERS_ONLY, "hgfedcba" * 3),
)


def cases():
    """Word lists with short texts, and some with long ones."""
    for words in (*LISTS, LETTERS_ONLY, *TWO_LETTERS[::3]):
        for text in helpers.texts_of(words, 5 if len(words) < 5 else 3):
            yield words, text
    yield from LONG_TEXTS


def spoken(words, pieces):
    """What a reader gives out on each of the pieces, and at the end."""
    reader = Reader(words)
    return [reader.read(piece) for piece in pieces], reader.held(), reader.finish()


def pieces_of(text, size):
    """The text in pieces of so many letters."""
    return [text[at:at + size] for at in range(0, len(text), size)]


class After(unittest.TestCase):
    def test_point_55(self):
        for words, text in cases():
            given, held = read_slowly(words, "", text)
            self.assertEqual(after(words, text), (tuple(given), held))

    def test_point_64(self):
        self.assertEqual(after(DOC, "abc"), (("ab", "c"), ""))
        self.assertEqual(after(DOC, "bc"), ((), "bc"))
        self.assertEqual(after(DOC, "bca"), (("b", "c"), "a"))

    def test_point_57(self):
        for words, text in cases():
            given, held = after(words, text)
            self.assertEqual("".join(given) + held, text)
            self.assertEqual(given + helpers.greedy(words, held), longest_match(words, text))

    def test_edges(self):
        for words in (*LISTS, LETTERS_ONLY):
            self.assertEqual(after(words, ""), ((), ""))
        self.assertEqual(after(ONE, "z" * 30), (("z",) * 30, ""))
        self.assertEqual(after(ALL_AS, THIRTY), (("aaaa",) * 7, "aa"))
        self.assertEqual(after(DEAR, "a" * 29), (("aa",) * 14, "a"))
        self.assertEqual(after(DEAR, THIRTY), (("aa",) * 15, ""))
        self.assertEqual(after(EIGHT, "bbb"), ((), "bbb"))
        self.assertEqual(after(EIGHT, "bbbb"), (("bb",), "bb"))
        # One letter makes the reader give out more than one word.
        self.assertEqual(after((("a", 1), ("aaab", 1), ("b", 1)), "aaaaa"), (("a", "a"), "aaa"))
        self.assertEqual(after((("a", 1), ("aaab", 1), ("b", 1), ("c", 1)), "aaac"), (("a", "a", "a", "c"), ""))


class Held(unittest.TestCase):
    def test_point_56(self):
        for words in (*LISTS, LETTERS_ONLY, *TWO_LETTERS):
            begun = {word[:many] for word, _ in words for many in range(len(word))}
            self.assertEqual(all_held(words), helpers.by_length(begun))
            for held in begun:
                self.assertEqual(after(words, held), ((), held))
            self.assertEqual(len(all_held(words)[-1]), max(len(word) for word, _ in words) - 1)

    def test_point_56_nothing_else_is_held(self):
        for words, text in cases():
            self.assertIn(after(words, text)[1], all_held(words))

    def test_point_56_edges(self):
        self.assertEqual((all_held(ONE), all_held(LETTERS_ONLY)), ([""], [""]))
        self.assertEqual(all_held(ALL_AS), ["", "a", "aa", "aaa"])
        self.assertEqual(all_held((("a", 1), ("b", 1), ("ba", 1), ("baab", 1))), ["", "b", "ba", "baa"])
        self.assertEqual(all_held((("a", 1), ("ab", 1), ("b", 1), ("ba", 1), ("baa", 1))), ["", "a", "b", "ba"])

    def test_point_57_extensions(self):
        for words, text in cases():
            _, held = read_slowly(words, "", text)
            expected = [word for word, _ in words if len(word) > len(held) and word[:len(held)] == held]
            self.assertEqual(extensions(words, text), helpers.by_length(expected))
            self.assertTrue(expected)

    def test_point_57_extensions_in_order_by_length(self):
        words = (("a", 1), ("abb", 1), ("abbb", 1), ("aca", 1), ("b", 1), ("ba", 1), ("c", 1))
        self.assertEqual(extensions(words, ""), ["a", "b", "c", "ba", "abb", "aca", "abbb"])
        self.assertEqual(extensions(words, "a"), ["abb", "aca", "abbb"])
        self.assertEqual(extensions(words, "cab"), ["abb", "abbb"])
        self.assertEqual(extensions(words, "abb"), ["abbb"])
        self.assertEqual(extensions(ONE, "z" * 30), ["z"])

    def test_point_62_two_continuations(self):
        for words, text in cases():
            given, held = after(words, text)
            if held:
                whole = text[:len(text) - len(held)] + extensions(words, text)[0]
                self.assertNotEqual(helpers.greedy(words, text)[len(given)], helpers.greedy(words, whole)[len(given)])


class Pieces(unittest.TestCase):
    def test_point_61_letter_by_letter(self):
        for words, text in cases():
            reader = Reader(words)
            held = ""
            for letter in text:
                given, held = read_slowly(words, held, letter)
                self.assertEqual(reader.read(letter), given)
                self.assertEqual(reader.held(), held)

    def test_point_61_pieces_of_every_size(self):
        for words, text in LONG_TEXTS:
            given, held = read_slowly(words, "", text)
            for size in (1, 2, 3, 4, 7, 11, 29, 30):
                told, left, rest = spoken(words, pieces_of(text, size))
                self.assertEqual(sum(told, []), given)
                self.assertEqual((left, rest), (held, list(helpers.greedy(words, held))))

    def test_point_61_more_than_thirty_letters(self):
        for words, text in LONG_TEXTS:
            whole = text * 40
            for size in (1, 13, 30):
                told, _, rest = spoken(words, pieces_of(whole, size))
                self.assertEqual(tuple(sum(told, []) + rest), helpers.greedy(words, whole))

    def test_point_61_empty_pieces(self):
        reader = Reader(DOC)
        self.assertEqual((reader.read(""), reader.held(), reader.finish()), ([], "", []))
        self.assertEqual((reader.read("b"), reader.read(""), reader.held()), ([], [], "b"))
        self.assertEqual((reader.read("c"), reader.read(""), reader.read("a")), ([], [], ["b", "c"]))

    def test_finish(self):
        for words, text in cases():
            reader = Reader(words)
            told = reader.read(text)
            self.assertEqual(tuple(told + reader.finish()), longest_match(words, text))
            self.assertEqual((reader.held(), reader.finish(), reader.held()), ("", [], ""))

    def test_a_reader_reads_one_text_after_another(self):
        for words, text in LONG_TEXTS:
            reader = Reader(words)
            for _ in range(3):
                told = reader.read(text[:17]) + reader.read(text[17:])
                self.assertEqual(tuple(told + reader.finish()), longest_match(words, text))

    def test_readers_do_not_share(self):
        one, other, third = Reader(DOC), Reader(DOC), Reader(DEAR)
        one.read("b")
        third.read("a")
        self.assertEqual((one.held(), other.held(), third.held()), ("b", "", "a"))
        other.read("a")
        one.finish()
        self.assertEqual((one.held(), other.held(), third.held()), ("", "a", "a"))


class Wrong(unittest.TestCase):
    words = (0, "words", BAD_LISTS)

    def test_points_7_and_63_functions(self):
        for function in (after, extensions):
            for good in ("", "abcd", THIRTY):
                check_errors(self, function, (DOC, good), (self.words, (1, "text", BAD_TEXTS)))
        check_errors(self, all_held, (DOC,), (self.words,))
        check_errors(self, Reader, (DOC,), (self.words,))

    def test_points_7_and_63_piece(self):
        reader = Reader(DOC)
        reader.read("abbc")
        for value in (*BAD_TEXTS, "abcdz", "e", b"a", {}, 1.5):
            self.assertEqual(helpers.told_name(self, reader.read, (value,)), "piece")
            self.assertEqual(reader.held(), "bc")
        self.assertEqual((reader.read("d"), reader.held()), (["bcd"], ""))
        check_errors(self, reader.read, ("",), ((0, "piece", BAD_TEXTS),))

    def test_a_piece_is_refused_whole(self):
        reader = Reader(DOC)
        self.assertEqual(helpers.told_name(self, reader.read, ("abcd" * 7 + "z",)), "piece")
        self.assertEqual((reader.held(), reader.finish()), ("", []))


class Repeating(unittest.TestCase):
    def test_point_2(self):
        for function in (after, extensions):
            helpers.check_pure(self, function, DOC, "abcdab")
        helpers.check_pure(self, all_held, DOC)

    def test_point_2_returned_lists_are_not_used_again(self):
        reader = Reader(DOC)
        for piece in ("abb", "c", "abcdb", ""):
            told = reader.read(piece)
            held = reader.held()
            told.append("x")
            told.reverse()
            self.assertEqual(reader.held(), held)
        self.assertEqual(reader.read("a"), ["b"])
        reader.finish().append("x")
        self.assertEqual((reader.finish(), reader.read("abc")), ([], ["ab", "c"]))

    def test_point_3_kinds(self):
        told = after(DOC, "abcb")
        helpers.check_kind(self, tuple, told)
        helpers.check_kind(self, tuple, told[0])
        helpers.check_kind(self, str, told[1])
        reader = Reader(DOC)
        for value in (extensions(DOC, "a"), all_held(DOC), reader.read("abcd"), reader.read(""), reader.finish()):
            helpers.check_kind(self, list, value)
        helpers.check_kind(self, str, reader.held())


if __name__ == "__main__":
    unittest.main()
