"""Tests of greedycuts.desk: points 2, 3, 7, 8, 121 to 125, 127 and 128."""

import unittest

from greedycuts.desk import Desk
from greedycuts.errors import BadValue, CutError, NotPossible, TooLarge
from tests import helpers
from tests.helpers import (
    AAA, ALL_AS, BAD_LISTS, BAD_TEXTS, DEAR, DOC, EIGHT, LETTERS_ONLY, LONG, MIXED, ONE, SMALL, check_errors,
    check_kind, commands_for, cost, greedy, least, slow_after, slow_change, slow_obstacle, texts_of,
)

LISTS = (DOC, SMALL, ONE, AAA, EIGHT, LONG)
# No commands of a right form for DOC and the text abc.
NO_COMMANDS = (
    None, True, False, 0, 1, 1.5, "", "insert", "drop", [], (), {}, {"drop"}, b"drop", ["drop", "ab"],
    ["insert", 0, "a"], ("drop",), ("insert",), ("remove",), ("replace",), ("add",), (None,), (1,), ((),), ("undo",),
    ("insert", 0), ("insert", 0, "a", "b"), ("insert", 0, 0, "a"), ("remove", 0), ("remove", 0, 1, "a"), ("remove", 0, 1, 2),
    ("replace", 0, 1), ("replace", 0, "a"), ("replace", 0, 1, "a", "a"), ("add", "x"), ("add", "x", 1, 1), ("drop", "ab", 1),
    ("Insert", 0, "a"), ("insert ", 0, "a"), ("", 0, "a"), ("change", 0, "a"), (None, 0, "a"), (0, 0, "a"),
    (b"insert", 0, "a"), (("insert",), 0, "a"), (["insert"], 0, "a"), ({}, 0, "a"), ("delete", 0, 1), ("words", "a"),
    ("insert", -1, "a"), ("insert", 4, "a"), ("insert", 10 ** 40, "a"), ("insert", True, "a"), ("insert", False, "a"),
    ("insert", None, "a"), ("insert", "0", "a"), ("insert", (0,), "a"), ("insert", 1.0, "a"),
    ("insert", 0, None), ("insert", 0, 1), ("insert", 0, ("a",)), ("insert", 0, ["a"]), ("insert", 0, b"a"),
    ("insert", 0, "x"), ("insert", 0, "ax"), ("insert", 0, "A"), ("insert", 0, "a "), ("insert", 0, "a\n"),
    ("insert", 0, "a" * 31), ("insert", 0, "a" * 1000), ("insert", 0, "\u00e4"), ("insert", "a", 0),
    ("remove", -1, 1), ("remove", 0, 4), ("remove", 4, 4), ("remove", 2, 1), ("remove", 1, 0), ("remove", True, 1),
    ("remove", 0, True), ("remove", False, 0), ("remove", 0, None), ("remove", None, 1), ("remove", 0, "1"),
    ("remove", 0, 1.0), ("remove", 0, 10 ** 40), ("remove", -(10 ** 40), 0), ("remove", (0,), 1), ("remove", "a", "b"),
    ("replace", -1, 1, "a"), ("replace", 0, 4, "a"), ("replace", 2, 1, "a"), ("replace", True, 1, "a"),
    ("replace", 0, True, "a"), ("replace", 0, None, "a"), ("replace", 0, 1, None), ("replace", 0, 1, "x"),
    ("replace", 0, 1, "a" * 31), ("replace", 0, 1, 1), ("replace", 0, 1, ["a"]), ("replace", 0, "a", 1),
    ("add", "", 1), ("add", "abcda", 1), ("add", "A", 1), ("add", "aB", 1), ("add", "a1", 1), ("add", "a ", 1),
    ("add", " ", 1), ("add", "\u00e4", 1), ("add", None, 1), ("add", 1, "x"), ("add", ("x",), 1), ("add", ["x"], 1),
    ("add", b"x", 1), ("add", "x", 0), ("add", "x", 10), ("add", "x", -1), ("add", "x", True), ("add", "x", None),
    ("add", "x", "1"), ("add", "x", 1.0), ("add", "x", (1,)), ("add", "x", 10 ** 40), ("add", ("x", 1)),
    ("drop", None), ("drop", 1), ("drop", True), ("drop", ("ab",)), ("drop", ["ab"]), ("drop", b"ab"), ("drop", {}),
)


def state(desk):
    """All that a desk tells."""
    return (
        desk.words(), desk.text(), desk.row(), desk.cost(), desk.least(), desk.journal(), desk.records(),
        tuple(desk.word_at(index) for index in range(len(desk.text()))),
    )


def plain_state(words, text, journal=(), records=()):
    """The same, made in a plain way."""
    row = greedy(words, text)
    places = tuple(index for index, word in enumerate(row) for _ in word)
    return words, text, row, cost(words, row), least(words, text), tuple(journal), tuple(records), places


def told(case, desk, command):
    """The error of a command that raises one; the desk has to stay as it was."""
    before = state(desk)
    with case.assertRaises(CutError) as caught:
        desk.do(command)
    case.assertEqual(state(desk), before)
    return caught.exception


class Doing(unittest.TestCase):
    def test_point_121_a_new_desk(self):
        for words in LISTS:
            for text in texts_of(words, 3):
                self.assertEqual(state(Desk(words, text)), plain_state(words, text))
        self.assertEqual(state(Desk(DOC, "abcd" * 7 + "ab")), plain_state(DOC, "abcd" * 7 + "ab"))

    def test_points_121_to_123_every_command(self):
        seen = set()
        for words in LISTS:
            for text in texts_of(words, 3 if len(words) < 5 else 2):
                for command in commands_for(words, text):
                    desk = Desk(words, text)
                    why = slow_obstacle(words, text, command)
                    seen.add((command[0], why))
                    if why is not None:
                        error = told(self, desk, command)
                        self.assertIs(error.__class__, NotPossible)
                        self.assertEqual(error.why, why)
                        continue
                    change = desk.do(command)
                    after = slow_after(words, text, command)
                    row = greedy(*after)
                    self.assertEqual(change, slow_change(greedy(words, text), row))
                    self.assertEqual(state(desk), plain_state(*after, [command], [(command, row)]))
                    self.assertEqual(desk.undo(), command)
                    self.assertEqual(state(desk), plain_state(words, text))
        self.assertEqual(seen, {
            ("insert", None), ("remove", None), ("replace", None), ("add", None), ("add", "known"), ("add", "letters"),
            ("add", "full"), ("drop", None), ("drop", "unknown"), ("drop", "needed"),
        })

    def test_point_121_by_hand(self):
        desk = Desk(DOC, "abc")
        self.assertEqual(desk.do(("insert", 3, "d")), (2, 0, ("d",)))
        self.assertEqual(desk.do(("insert", 0, "aa")), (0, 0, ("a", "a")))
        self.assertEqual((desk.text(), desk.row()), ("aaabcd", ("a", "a", "ab", "c", "d")))
        # From aaabcd the second and the third letter are taken out.
        self.assertEqual(desk.do(("remove", 1, 3)), (0, 2, ()))
        self.assertEqual((desk.text(), desk.row()), ("abcd", ("ab", "c", "d")))
        self.assertEqual(desk.do(("replace", 0, 2, "cb")), (0, 3, ("c", "bcd")))
        self.assertEqual((desk.text(), desk.row()), ("cbcd", ("c", "bcd")))


class Ends(unittest.TestCase):
    def test_points_121_and_122_at_the_ends(self):
        desk = Desk(SMALL, "")
        self.assertEqual(desk.do(("insert", 0, "")), (0, 0, ()))
        self.assertEqual(desk.do(("remove", 0, 0)), (0, 0, ()))
        self.assertEqual(desk.do(("replace", 0, 0, "ba")), (0, 0, ("b", "a")))
        self.assertEqual(desk.do(("insert", 2, "b")), (1, 1, ("ab",)))
        self.assertEqual(desk.do(("insert", 0, "a")), (0, 1, ("ab",)))
        self.assertEqual((desk.text(), desk.row()), ("abab", ("ab", "ab")))
        self.assertEqual(desk.do(("remove", 4, 4)), (2, 0, ()))
        self.assertEqual(desk.do(("replace", 0, 4, "")), (0, 2, ()))
        self.assertEqual(state(desk)[:5], (SMALL, "", (), 0, 0))

    def test_point_121_a_word_that_is_put_in_or_taken_out(self):
        desk = Desk(SMALL, "abab")
        self.assertEqual(desk.do(("drop", "ab")), (0, 2, ("a", "b", "a", "b")))
        self.assertEqual((desk.words(), desk.cost(), desk.least()), ((("a", 1), ("b", 2)), 6, 6))
        self.assertEqual(desk.do(("add", "bab", 9)), (1, 3, ("bab",)))
        self.assertEqual((desk.words(), desk.cost(), desk.least()), ((("a", 1), ("b", 2), ("bab", 9)), 10, 6))
        self.assertEqual(desk.do(("add", "ab", 3)), (0, 2, ("ab", "ab")))
        self.assertEqual(desk.words(), (("a", 1), ("ab", 3), ("b", 2), ("bab", 9)))
        self.assertEqual(desk.do(("add", "c", 4)), (2, 0, ()))
        self.assertEqual(desk.do(("insert", 4, "c")), (2, 0, ("c",)))
        self.assertEqual(desk.do(("add", "bc", 1)), (3, 0, ()))
        self.assertEqual(desk.row(), ("ab", "ab", "c"))


class Possible(unittest.TestCase):
    def why(self, words, text, *commands):
        """The words of the commands, each on a desk of its own."""
        found = []
        for command in commands:
            error = told(self, Desk(words, text), command)
            self.assertIs(error.__class__, NotPossible)
            found.append(error.why)
        return found

    def test_point_122_long(self):
        for text in ("a" * 30, "ab" * 15, "abcd" * 7 + "ab"):
            commands = [("insert", index, "a") for index in (0, 17, 30)]
            commands += [("insert", 30, "b" * 30), ("replace", 0, 0, "a"), ("replace", 30, 30, "a"), ("replace", 3, 5, "aaa")]
            commands += [("replace", 0, 29, "a" * 30)]
            self.assertEqual(self.why(DOC, text, *commands), ["long"] * 8)
            for command in (("insert", 12, ""), ("replace", 3, 5, "aa"), ("replace", 0, 30, "a" * 30), ("remove", 0, 30)):
                desk = Desk(DOC, text)
                desk.do(command)
                self.assertEqual(desk.text(), slow_after(DOC, text, command)[1])
        self.assertEqual(self.why(DOC, "a", ("insert", 0, "a" * 30), ("replace", 1, 1, "a" * 30)), ["long"] * 2)
        desk = Desk(DOC, "")
        desk.do(("insert", 0, "b" * 30))
        self.assertEqual(desk.text(), "b" * 30)
        desk = Desk(DOC, "a" * 29)
        desk.do(("insert", 29, "b"))
        self.assertEqual(desk.text(), "a" * 29 + "b")

    def test_point_122_known(self):
        self.assertEqual(self.why(DOC, "", *[("add", word, 9) for word, _ in DOC]), ["known"] * 6)
        self.assertEqual(self.why(DOC, "", *[("add", *entry) for entry in DOC]), ["known"] * 6)
        # Also if the list is full.
        self.assertEqual(self.why(EIGHT, "", ("add", "abab", 1), ("add", "a", 1)), ["known"] * 2)

    def test_point_122_letters(self):
        self.assertEqual(self.why(SMALL, "", ("add", "ac", 1), ("add", "ca", 1), ("add", "xyz", 9)), ["letters"] * 3)
        # Also if the list is full.
        self.assertEqual(self.why(EIGHT, "", ("add", "ac", 1), ("add", "xx", 1)), ["letters"] * 2)
        self.assertEqual(self.why(LETTERS_ONLY, "a", ("add", "ai", 1)), ["letters"])

    def test_point_122_full(self):
        self.assertEqual(self.why(EIGHT, "a", ("add", "aba", 1), ("add", "c", 1)), ["full"] * 2)
        self.assertEqual(self.why(LETTERS_ONLY, "", ("add", "i", 1), ("add", "ab", 9)), ["full"] * 2)
        desk = Desk(DOC, "")
        desk.do(("add", "dd", 1))
        desk.do(("add", "e", 1))
        self.assertEqual(len(desk.words()), 8)
        error = told(self, desk, ("add", "f", 1))
        self.assertEqual((error.__class__, error.why), (NotPossible, "full"))
        desk.do(("drop", "dd"))
        desk.do(("add", "f", 1))
        self.assertEqual(desk.words(), (*DOC, ("e", 1), ("f", 1)))

    def test_point_122_unknown(self):
        commands = [("drop", word) for word in ("x", "", "ac", "A", "abcde", "a" * 1000, "\n")]
        self.assertEqual(self.why(DOC, "abcd", *commands), ["unknown"] * 7)
        # Also if the list has one word alone.
        self.assertEqual(self.why(ONE, "zz", ("drop", "a"), ("drop", "zz")), ["unknown"] * 2)

    def test_point_122_needed(self):
        self.assertEqual(self.why(ONE, "", ("drop", "z")), ["needed"])
        self.assertEqual(self.why(ONE, "z", ("drop", "z")), ["needed"])
        # In another word, in the text, and in both.
        self.assertEqual(self.why(SMALL, "", ("drop", "a"), ("drop", "b")), ["needed"] * 2)
        self.assertEqual(self.why(LETTERS_ONLY, "h", ("drop", "h")), ["needed"])
        self.assertEqual(self.why(DOC, "abcd", *[("drop", letter) for letter in "abcd"]), ["needed"] * 4)
        # A longer word can stand in the text and in another word.
        for words, text, word in ((DOC, "ab", "ab"), (EIGHT, "abab", "ab"), (AAA, "aaa", "aa"), (LETTERS_ONLY, "g", "h")):
            desk = Desk(words, text)
            desk.do(("drop", word))
            self.assertNotIn(word, dict(desk.words()))
        desk = Desk((("a", 1), ("b", 2)), "bb")
        desk.do(("drop", "a"))
        self.assertEqual(desk.words(), (("b", 2),))
        self.assertEqual(told(self, desk, ("drop", "b")).why, "needed")


class Undoing(unittest.TestCase):
    def test_point_123_undo_of_nothing(self):
        for words in LISTS:
            desk = Desk(words, "")
            self.assertIsNone(desk.undo())
            self.assertIsNone(desk.undo())
            self.assertEqual(state(desk), plain_state(words, ""))

    def test_point_123_back_to_the_beginning(self):
        for words in (DOC, SMALL, LONG):
            desk, states, done = Desk(words, "ab"), [], []
            now = (words, "ab")
            for number in range(20):
                possible = [one for one in commands_for(*now) if slow_obstacle(*now, one) is None]
                command = possible[(number * 37 + 11) % len(possible)]
                states.append(state(desk))
                desk.do(command)
                done.append(command)
                now = slow_after(*now, command)
                self.assertEqual((desk.words(), desk.text(), desk.journal()), (*now, tuple(done)))
            while states:
                self.assertEqual(desk.undo(), done.pop())
                self.assertEqual(state(desk), states.pop())
            self.assertIsNone(desk.undo())

    def test_point_123_going_on_after_undo(self):
        desk = Desk(DOC, "abc")
        desk.do(("remove", 0, 1))
        desk.do(("add", "dd", 4))
        self.assertEqual(desk.undo(), ("add", "dd", 4))
        desk.do(("insert", 2, "d"))
        self.assertEqual(desk.journal(), (("remove", 0, 1), ("insert", 2, "d")))
        self.assertEqual(desk.records(), ((("remove", 0, 1), ("b", "c")), (("insert", 2, "d"), ("bcd",))))
        self.assertEqual(desk.words(), DOC)


class Full(unittest.TestCase):
    def full_desk(self):
        """A desk with 20 commands."""
        desk = Desk(DOC, "ab")
        for _ in range(10):
            desk.do(("insert", 2, "cd"))
            desk.do(("remove", 0, 2))
        return desk

    def test_points_123_and_128_the_21st_command(self):
        desk = self.full_desk()
        self.assertEqual(len(desk.journal()), 20)
        for command in (("insert", 0, "a"), ("remove", 0, 0), ("add", "e", 1), ("drop", "ab"), ("replace", 0, 1, "a")):
            error = told(self, desk, command)
            self.assertIs(error.__class__, TooLarge)
            self.assertEqual(error.what, "commands")

    def test_point_128_other_errors_come_first(self):
        desk = self.full_desk()
        for command, why in ((("add", "ab", 1), "known"), (("drop", "x"), "unknown"), (("insert", 0, "a" * 29), "long")):
            error = told(self, desk, command)
            self.assertIs(error.__class__, NotPossible)
            self.assertEqual(error.why, why)
        for command in NO_COMMANDS[::5]:
            error = told(self, desk, command)
            self.assertIs(error.__class__, BadValue)
            self.assertEqual(error.name, "command")

    def test_point_123_room_again(self):
        desk = self.full_desk()
        desk.undo()
        desk.do(("drop", "ab"))
        self.assertEqual(len(desk.journal()), 20)
        self.assertIs(told(self, desk, ("drop", "bcd")).__class__, TooLarge)
        for _ in range(25):
            desk.undo()
        self.assertEqual(state(desk), plain_state(DOC, "ab"))


class Places(unittest.TestCase):
    def test_word_at(self):
        for words in (*LISTS, DEAR, ALL_AS, MIXED):
            for text in texts_of(words, 4):
                desk = Desk(words, text)
                places = [index for index, word in enumerate(greedy(words, text)) for _ in word]
                self.assertEqual([desk.word_at(index) for index in range(len(text))], places)

    def test_word_at_of_30_letters(self):
        desk = Desk(DOC, "abbcd" * 6)
        self.assertEqual([desk.word_at(index) for index in (0, 1, 2, 4, 5, 28, 29)], [0, 0, 1, 1, 2, 11, 11])

    def test_points_7_and_128(self):
        for text in ("abc", "a" * 30):
            desk = Desk(DOC, text)
            wrong = (None, True, False, -1, len(text), 31, 10 ** 40, "0", "", (), (0,), [0], 1.0)
            check_errors(self, desk.word_at, (0,), ((0, "index", wrong),))
            check_errors(self, desk.word_at, (len(text) - 1,), ((0, "index", wrong),))
        for index in (0, -1, 1, None):
            self.assertEqual(helpers.told_name(self, Desk(DOC, "").word_at, (index,)), "index")

    def test_after_an_edit(self):
        desk = Desk(DOC, "a")
        desk.do(("remove", 0, 1))
        self.assertEqual(helpers.told_name(self, desk.word_at, (0,)), "index")
        desk.do(("insert", 0, "ab"))
        self.assertEqual([desk.word_at(0), desk.word_at(1)], [0, 0])


class Locality(unittest.TestCase):
    def check(self, words, text, start, end, letters):
        """Point 124 for one edit."""
        desk = Desk(words, text)
        old = desk.row()
        desk.do(("replace", start, end, letters))
        new = desk.row()
        longest = max(len(word) for word, _ in words)
        begin = 0
        for index, word in enumerate(old):
            if begin + longest <= start:
                self.assertEqual(new[:index + 1], old[:index + 1], (words, text, start, end, letters))
            begin += len(word)
        behind, behind_new = self.rests(old, len(text) - end), self.rests(new, len(text) - end)
        for left in behind:
            if left in behind_new:
                self.assertEqual(behind[left], behind_new[left])
                return 1
        return 0

    def rests(self, row, most):
        """For each place behind the edit, counted from the end, at which a word begins, the words from there on."""
        return {
            many: row[index:] for index in range(len(row)) for many in [len("".join(row[index:]))] if many <= most
        }

    def test_point_124_short_texts(self):
        met = 0
        for words in (SMALL, LONG, EIGHT, AAA, DEAR):
            texts = [text for text in texts_of(words, 6) if len(text) in (4, 6)]
            for text in texts[::2]:
                for start in range(len(text) + 1):
                    for end in range(start, min(start + 3, len(text) + 1)):
                        for letters in texts_of(words, 2):
                            met += self.check(words, text, start, end, letters)
        self.assertGreater(met, 1000)

    def test_point_124_long_texts(self):
        met = 0
        for words in (DOC, EIGHT, LONG, ALL_AS, MIXED, SMALL):
            starts = [text for text in texts_of(words, 4) if len(text) == 4]
            for start in starts[::3]:
                text = (start + start[::-1] + start[1:]) * 2
                for index in range(0, len(text) + 1, 3):
                    for letters in ("", start[0], start[2:]):
                        met += self.check(words, text, index, min(index + 2, len(text)), letters)
                        met += self.check(words, text, index, index, letters)
        self.assertGreater(met, 1000)


class Wrong(unittest.TestCase):
    def test_points_7_and_128_words_and_text(self):
        check_errors(self, Desk, (DOC, "abcd"), ((0, "words", BAD_LISTS), (1, "text", BAD_TEXTS)))
        check_errors(self, Desk, (ONE, ""), ((0, "words", BAD_LISTS), (1, "text", ("a", "za", None, "z" * 31))))

    def test_point_128_commands(self):
        for command in NO_COMMANDS:
            self.assertIs(helpers.right_form(DOC, "abc", command), False, command)
            error = told(self, Desk(DOC, "abc"), command)
            self.assertIs(error.__class__, BadValue, command)
            self.assertEqual(error.name, "command")

    def test_point_122_forms_at_the_edges(self):
        for command in (
            ("insert", 0, ""), ("insert", 3, "d" * 27), ("remove", 0, 0), ("remove", 3, 3), ("remove", 0, 3),
            ("replace", 3, 3, "a"), ("replace", 0, 3, "a" * 30), ("add", "z", 1), ("add", "dddd", 9), ("drop", "bcd"),
        ):
            desk = Desk(DOC, "abc")
            desk.do(command)
            self.assertEqual((desk.words(), desk.text()), slow_after(DOC, "abc", command))

    def test_point_122_the_form_depends_on_what_the_desk_holds(self):
        desk = Desk(SMALL, "ab")
        self.assertEqual(told(self, desk, ("insert", 0, "c")).name, "command")
        self.assertEqual(told(self, desk, ("insert", 3, "a")).name, "command")
        desk.do(("add", "c", 5))
        desk.do(("insert", 0, "c"))
        desk.do(("insert", 3, "a"))
        self.assertEqual(desk.text(), "caba")
        desk.do(("remove", 0, 1))
        desk.do(("drop", "c"))
        self.assertEqual(told(self, desk, ("insert", 0, "c")).name, "command")
        self.assertEqual(told(self, desk, ("replace", 0, 4, "a")).name, "command")


class Repeating(unittest.TestCase):
    def test_point_2_two_desks(self):
        one, other = Desk(DOC, "abcd"), Desk(DOC, "abcd")
        one.do(("drop", "ab"))
        self.assertEqual(state(other), plain_state(DOC, "abcd"))
        other.do(("drop", "ab"))
        self.assertEqual(state(one), state(other))
        self.assertEqual(state(one), state(one))

    def test_point_2_questions_change_nothing(self):
        desk = Desk(EIGHT, "abbabaab")
        desk.do(("insert", 2, "aab"))
        before = state(desk)
        for _ in range(3):
            self.assertEqual(state(desk), before)

    def test_point_3_kinds(self):
        desk = Desk(DOC, "abc")
        change = desk.do(("insert", 3, "d"))
        for kind, value in (
            (tuple, change), (int, change[0]), (int, change[1]), (tuple, change[2]), (tuple, desk.words()),
            (str, desk.text()), (tuple, desk.row()), (int, desk.cost()), (int, desk.least()), (int, desk.word_at(0)),
            (tuple, desk.journal()), (tuple, desk.records()), (tuple, desk.records()[0]), (tuple, desk.records()[0][1]),
            (tuple, desk.undo()),
        ):
            check_kind(self, kind, value)


if __name__ == "__main__":
    unittest.main()
