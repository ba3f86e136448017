"""Tests of greedycuts.journals: points 2, 3, 7, 8 and 122 to 128."""

import unittest
from functools import lru_cache

from greedycuts.desk import Desk
from greedycuts.errors import BadValue, CutError, NotPossible
from greedycuts.journals import are_right, replayed
from tests import helpers
from tests.helpers import (
    BAD_LISTS, BAD_TEXTS, DOC, EIGHT, LETTERS_ONLY, LONG, ONE, SMALL, check_errors, check_kind, check_pure,
    commands_for, conflict, greedy, right_form, slow_after, slow_obstacle, texts_of,
)

# The example of the document.
GOOD = ((("insert", 3, "d"), ("ab", "c", "d")), (("drop", "ab"), ("a", "bcd")))
NO_RECORDS = (
    None, True, False, 0, 1, 10 ** 40, 1.5, "", "ab", [], {}, {1}, b"", list(GOOD), GOOD[0], GOOD[::-1], GOOD[1:],
    (GOOD,), [GOOD], (None,), (1,), ("",), ((),), ([],), ({},), (GOOD[0], None), (None, GOOD[1]), (GOOD[0], ()),
    (list(GOOD[0]),), ([GOOD[0]],), ((GOOD[0][0],),), ((*GOOD[0], GOOD[0][1]),), ((GOOD[0][1], GOOD[0][0]),),
    ((None, ("ab", "c", "d")),), (((), ()),), ((["insert", 3, "d"], ("ab", "c", "d")),), (("insert", ("ab", "c", "d")),),
    ((("insert", 3, "d"), None),), ((("insert", 3, "d"), ["ab", "c", "d"]),), ((("insert", 3, "d"), "abcd"),),
    ((("insert", 3, "d"), ()),), ((("insert", 3, "d"), ("ab", "c")),), ((("insert", 3, "d"), ("ab", "c", "d", "d")),),
    ((("insert", 3, "d"), ("a", "bcd")),), ((("insert", 3, "d"), ("a", "b", "c", "d")),), ((("insert", 3, "d"), ("abcd",)),),
    ((("insert", 3, "d"), ("ab", "cd")),), ((("insert", 3, "d"), ("ab", "d", "c")),), ((("insert", 3, "d"), ("ab", "c", None)),),
    ((("insert", 3, "d"), ("ab", "c", 1)),), ((("insert", 3, "d"), ("ab", "c", ("d",))),), ((("insert", 3, "d"), ("ab", "c", ["d"])),),
    ((("insert", 3, "d"), ("ab", "c", "d", "")),), ((("insert", 3, "d"), ("ab", "c", b"d")),), ((("insert", 3, "d"), {}),),
    ((("insert", 4, "d"), ("ab", "c", "d")),), ((("insert", 2, "d"), ("ab", "c", "d")),), ((("insert", 3, "e"), ("ab", "c", "e")),),
    ((("insert", True, "d"), ("a", "d", "b", "c")),), ((("insert", 0, "a" * 28), ("a",) * 28 + ("ab", "c")),),
    ((("add", "ab", 1), ("ab", "c")),), ((("add", "ab", 2), ("ab", "c")),), ((("add", "ax", 1), ("ab", "c")),),
    ((("add", "x", 0), ("ab", "c")),), ((("drop", "a"), ("ab", "c")),), ((("drop", "x"), ("ab", "c")),),
    ((("drop", "b"), ("ab", "c")),), ((("undo",), ("ab", "c")),), ((("drop", "ab"), ("ab", "c")),),
    (GOOD[0], GOOD[0]), (GOOD[0], (GOOD[1][0], GOOD[0][1])), (GOOD[0], (GOOD[0][0], GOOD[1][1])), (*GOOD, GOOD[1]),
    (*GOOD, (("add", "ab", 1), ("a", "bcd"))), (*GOOD, (("remove", 0, 5), ())), (*GOOD, (("remove", 0, 1), ("b", "cd"))),
)


def slow_right_records(words, text, records):
    """Whether a tuple of pairs are right records, by the words of point 126."""
    for command, row in records:
        if not right_form(words, text, command) or slow_obstacle(words, text, command) is not None:
            return False
        words, text = slow_after(words, text, command)
        spelled = [word for word, _ in words]
        if not isinstance(row, tuple) or not all(isinstance(word, str) and word in spelled for word in row):
            return False
        if "".join(row) != text or conflict(words, row) is not None:
            return False
    return True


@lru_cache
def journal_of(words, text, many, by):
    """So many commands of all kinds that are possible one after another, with texts of at most 7 letters."""
    journal = []
    for number in range(many):
        possible = [
            command for command in commands_for(words, text)
            if slow_obstacle(words, text, command) is None and len(slow_after(words, text, command)[1]) <= 7
        ]
        journal.append(possible[(number * by + by // 3) % len(possible)])
        words, text = slow_after(words, text, journal[-1])
    return tuple(journal)


def worked(words, text, many, by):
    """A desk on which so many commands were done."""
    desk = Desk(words, text)
    for command in journal_of(words, text, many, by):
        desk.do(command)
    return desk


def desks():
    """The lists and texts at the beginning, and desks on which commands were done."""
    return [
        (words, text, worked(words, text, many, by))
        for words in (DOC, SMALL, LONG, EIGHT, ONE, LETTERS_ONLY)
        for text, many, by in (("", 3, 7), ("", 20, 61), (words[0][0] * 3, 9, 97), (words[0][0], 20, 151), ("", 0, 1))
    ]


def find_letter(desk):
    """A letter of the desk's list."""
    return desk.words()[0][0]


def everything(desk):
    """All that a desk tells."""
    return desk.words(), desk.text(), desk.row(), desk.cost(), desk.least(), desk.journal(), desk.records()


class Replaying(unittest.TestCase):
    def test_point_127_the_same_state(self):
        kinds = set()
        for words, text, desk in desks():
            again = replayed(words, text, desk.journal())
            self.assertIs(again.__class__, Desk)
            self.assertEqual(everything(again), everything(desk))
            kinds |= {command[0] for command in desk.journal()}
        self.assertEqual(kinds, {"insert", "remove", "replace", "add", "drop"})

    def test_point_127_used_further(self):
        for words, text, desk in desks():
            again = replayed(words, text, desk.journal())
            for one in (desk, again):
                one.undo()
                one.do(("insert", 0, find_letter(one)))
            self.assertEqual(everything(again), everything(desk))
            for _ in range(20):
                self.assertEqual(again.undo(), desk.undo())
                self.assertEqual(everything(again), everything(desk))
            self.assertEqual((again.words(), again.text(), again.journal()), (words, text, ()))

    def test_point_127_two_desks_that_are_used_apart(self):
        words, text, desk = desks()[0]
        again = replayed(words, text, desk.journal())
        before = everything(desk)
        again.do(("insert", 0, "abc"))
        self.assertEqual(everything(desk), before)

    def test_point_127_an_empty_journal(self):
        for words in (DOC, ONE):
            for text in texts_of(words, 2):
                self.assertEqual(everything(replayed(words, text, ())), everything(Desk(words, text)))

    def test_point_128_journals_of_20_and_21(self):
        journal = (("insert", 0, "a"), ("remove", 0, 1)) * 10
        desk = replayed(DOC, "", journal)
        self.assertEqual((desk.journal(), desk.text()), (journal, ""))
        self.assertEqual(helpers.told_name(self, replayed, (DOC, "", (*journal, ("insert", 0, "a")))), "journal")
        # The length is looked at before the commands.
        self.assertEqual(helpers.told_name(self, replayed, (DOC, "", (None,) * 21)), "journal")
        self.assertEqual(helpers.told_name(self, replayed, (DOC, "", (None,) * 20)), "command")

    def test_points_127_and_128_what_the_commands_raise(self):
        good = (("insert", 0, "abc"), ("drop", "ab"))
        for command in (None, 1, (), ("drop",), ("drop", 1), ["drop", "ab"], ("insert", 4, "a"), ("insert", 0, "x"), "drop"):
            for journal in ((command,), (*good, command), (command, *good), (*good, command, None)):
                self.assertEqual(helpers.told_name(self, replayed, (DOC, "", journal)), "command")
        for command, why in ((("drop", "ab"), "unknown"), (("drop", "c"), "needed"), (("insert", 0, "a" * 28), "long"),
                             (("add", "a", 3), "known"), (("add", "ae", 3), "letters")):
            with self.assertRaises(CutError) as caught:
                replayed(DOC, "", (*good, command, None))
            self.assertIs(caught.exception.__class__, NotPossible)
            self.assertEqual(caught.exception.why, why)

    def test_points_7_and_128(self):
        no_journals = (
            None, True, 0, 1, "", "insert", [], [("insert", 0, "a")], {}, {1}, b"", 1.5, (None,) * 21, ("",) * 1000,
        )
        wrong = ((0, "words", BAD_LISTS), (1, "text", BAD_TEXTS), (2, "journal", no_journals))
        check_errors(self, replayed, (DOC, "abc", ()), wrong)
        check_errors(self, replayed, (DOC, "a", (("remove", 0, 1),)), wrong)
        for words, text in ((None, ""), (DOC, "x")):
            with self.assertRaises(BadValue) as caught:
                replayed(words, text, (None,))
            self.assertEqual(caught.exception.name, "words" if words is None else "text")


class Judge(unittest.TestCase):
    def test_points_126_and_127_those_of_a_desk(self):
        for words, text, desk in desks():
            self.assertIs(are_right(words, text, desk.records()), True)
            self.assertIs(slow_right_records(words, text, desk.records()), True)
            for many in range(len(desk.records())):
                self.assertIs(are_right(words, text, desk.records()[:many]), True)

    def test_point_125_the_records(self):
        for words, text, desk in desks():
            now = (words, text)
            self.assertEqual(len(desk.records()), len(desk.journal()))
            for (command, row), done in zip(desk.records(), desk.journal()):
                now = slow_after(*now, command)
                self.assertEqual((command, row), (done, greedy(*now)))

    def test_point_126_the_example(self):
        self.assertIs(are_right(DOC, "abc", GOOD), True)
        self.assertIs(are_right(DOC, "abc", GOOD[:1]), True)
        self.assertIs(are_right(DOC, "abc", ()), True)
        self.assertIs(are_right(DOC, "abd", GOOD), False)
        self.assertIs(are_right(DOC, "abcd", GOOD), False)
        self.assertIs(are_right(DOC[:1] + DOC[2:], "abc", GOOD), False)

    def test_points_126_and_128_every_value_is_valid(self):
        for value in NO_RECORDS:
            self.assertIs(are_right(DOC, "abc", value), False, value)

    def test_points_122_and_126_one_command_changed(self):
        seen = set()
        for words, text, desk in desks():
            records = desk.records()
            now = (words, text)
            for index, (command, row) in enumerate(records):
                for other in commands_for(*now)[::17]:
                    changed = (*records[:index], (other, row), *records[index + 1:])
                    right = slow_right_records(words, text, changed)
                    self.assertIs(are_right(words, text, changed), right)
                    seen.add(right)
                now = slow_after(*now, command)
        self.assertEqual(seen, {True, False})

    def test_point_126_one_row_changed(self):
        for words, text, desk in desks():
            records = desk.records()
            for index, (command, row) in enumerate(records):
                others = [row[:-1], (*row, words[0][0]), row[::-1], tuple("".join(row)), ("".join(row),), list(row), None]
                for other in others:
                    changed = (*records[:index], (command, other), *records[index + 1:])
                    self.assertIs(are_right(words, text, changed), other == row)

    def test_point_126_one_record_left_out_or_twice(self):
        for words, text, desk in desks():
            records = desk.records()
            for index in range(len(records)):
                for changed in (
                    records[:index] + records[index + 1:], records[:index + 1] + records[index:],
                    records[index:] + records[:index],
                ):
                    self.assertIs(are_right(words, text, changed), slow_right_records(words, text, changed))

    def test_point_126_other_beginnings(self):
        for words, text, desk in desks():
            for other in texts_of(words, 2):
                right = slow_right_records(words, other, desk.records())
                self.assertIs(are_right(words, other, desk.records()), right)

    def test_point_126_what_is_not_possible(self):
        for words, text, row in ((DOC, "ab", ("ab",)), (SMALL, "ab", ("ab",)), (EIGHT, "ab", ("ab",)), (ONE, "z", ("z",))):
            for command in commands_for(words, text):
                right = slow_right_records(words, text, ((command, row),))
                self.assertIs(are_right(words, text, ((command, row),)), right)
                if slow_obstacle(words, text, command) is not None:
                    self.assertIs(are_right(words, text, ((command, row),)), False)

    def test_point_126_at_the_edges(self):
        self.assertIs(are_right(DOC, "", ((("insert", 0, "a" * 30), ("a",) * 30),)), True)
        self.assertIs(are_right(DOC, "a", ((("insert", 0, "a" * 30), ("a",) * 31),)), False)
        self.assertIs(are_right(DOC, "a" * 30, ((("remove", 0, 30), ()),)), True)
        self.assertIs(are_right(DOC, "a" * 30, ((("replace", 0, 30, "b" * 30), ("b",) * 30),)), True)
        self.assertIs(are_right(DOC, "", ((("remove", 0, 0), ()),)), True)
        self.assertIs(are_right(DOC, "", ((("remove", 0, 0), []),)), False)

    def test_point_126_any_number_of_records(self):
        # Point 126 bounds their number nowhere, other than point 123 that of the commands of a desk.
        one = (("insert", 0, "a"), ("a",))
        other = (("remove", 0, 1), ())
        for many in (10, 11, 100):
            self.assertIs(are_right(DOC, "", (one, other) * many), True)
            self.assertIs(are_right(DOC, "", (one, other) * many + (other,)), False)

    def test_points_7_and_128(self):
        for records in (GOOD, (), None, [], (None,)):
            wrong = ((0, "words", BAD_LISTS), (1, "text", BAD_TEXTS))
            check_errors(self, are_right, (DOC, "abc", records), wrong)


class Repeating(unittest.TestCase):
    def test_point_2(self):
        journal = (("insert", 3, "d"), ("drop", "ab"))
        before = repr(journal)
        replayed(DOC, "abc", journal).do(("remove", 0, 4))
        self.assertEqual(repr(journal), before)
        self.assertEqual(everything(replayed(DOC, "abc", journal)), everything(replayed(DOC, "abc", journal)))
        for value in (GOOD, list(GOOD), [list(record) for record in GOOD], (["drop", "ab"],), None):
            check_pure(self, are_right, DOC, "abc", value)

    def test_point_3_kinds(self):
        check_kind(self, bool, are_right(DOC, "abc", GOOD))
        check_kind(self, bool, are_right(DOC, "abc", None))


if __name__ == "__main__":
    unittest.main()
