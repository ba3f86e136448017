"""Tests over the whole program: points 2, 3, 7 and 8, for each function with values of all kinds."""

import importlib
import unittest

from greedycuts.desk import Desk
from greedycuts.errors import BadValue, CutError, NotPossible, TextError, TooLarge
from greedycuts.reader import Reader
from tests.helpers import DOC, ENDS
from tests.test_interface import FUNCTIONS

# Values for the parameters of all functions, with which most of them return something.
GOOD = {
    "words": DOC, "text": "abcd", "value": ("a", "bcd"), "index": 1, "cut": ("a", "bcd"), "many": 3, "boundaries": (1,),
    "one": ("a", "b", "c", "d"), "other": ("ab", "c", "d"), "word": "ab", "cost": 3, "row": ("ab",), "letters": 3,
    "heights": (0, 1, 1, 1, 2), "rest": "cd", "side": "first", "held": "a", "tail": "", "letter": "b", "a": 2, "b": 1,
    "c": 3, "first": DOC, "second": ENDS, "bound": 5, "table": (("", "", 0),), "before": "a", "cycle": "ab",
    "budget": 3, "old": ("a", "b"), "new": ("b",), "journal": (("drop", "ab"),), "records": ((("drop", "ab"), ("a", "bcd")),),
    "kind": "words",
}
JUDGES = (
    "is_list", "is_text", "is_cut", "accepts_heights", "is_cheapest", "accepts_contrary", "accepts_rests", "shows_more",
    "are_right", "accepts_answer", "accepts_bound", "accepts_by_letters",
)
JUDGED = ("value", "heights", "rest", "table", "records")


def nested():
    """A tuple in a tuple, and so on, deeper than Python calls functions."""
    deep = ()
    for _ in range(20000):
        deep = (deep,)
    return deep


class Odd:
    """A value of a kind that the document does not name."""

    __hash__ = None

    def __eq__(self, other):
        return self is other


VALUES = (
    None, True, False, 0, 1, -1, 7, 31, 10 ** 500, -(10 ** 500), 1.5, float("nan"), "", "a", "abcd", "A", "\n", "\ud800",
    "a" * 5000, b"", b"a", (), [], {}, set(), {"a": 1}, {"a"}, range(3), len, Odd(), Odd, (None,), (1,), ("a",), ("ab", "c"),
    ("",), ((),), ([],), ({},), ((), ()), (Odd(),), (("a", 1),), (("a", []),), ([], 1), (("", "", 0),), (("", "", 10 ** 500),),
    (([], "", 0),), (("", Odd(), 0),), (("", "", None),), ("insert", 0, "a"), ("insert", 10 ** 500, "a"), ("drop", []), ("drop", Odd()),
    ([], 0, "a"), (("drop", "ab"), ("a",)), ((("drop", []), []),), ((("drop", "ab"), ([],)),), (None,) * 4, (None,) * 5, ((),) * 7,
    ("", "a", "", ("a",)), ("", "a", "", ([],)), ((1, 1), 0, (), (), ()), ((1, 1), 0, ("", "a", "", ("a",)), ("a", ("a",)), ([],)),
    (([], 1), 0, (), (), ()), ((1, 0), 0, (), (), ()), ((0, 0), 0, (), (), ()), nested(),
)


def functions():
    """All functions of the interface with their good arguments and the names of these."""
    for module, names in sorted(FUNCTIONS.items()):
        for name, told in names.items():
            arguments = {parameter: GOOD[parameter] for parameter in told.split()}
            if module == "reading":
                arguments["text"] = "a"
            yield getattr(importlib.import_module("greedycuts." + module), name), arguments


class Kinds(unittest.TestCase):
    def test_points_7_and_8_no_other_errors(self):
        for function, arguments in functions():
            for parameter in arguments:
                for value in VALUES:
                    self.call(function, {**arguments, parameter: value}, parameter)

    def test_points_7_and_8_all_arguments_of_one_kind(self):
        for function, arguments in functions():
            for value in VALUES:
                self.call(function, {parameter: value for parameter in arguments}, "")

    def call(self, function, arguments, parameter):
        """Calls the function; what it raises has to be an error of the program, and none because of evidence."""
        try:
            found = function(*arguments.values())
        except CutError as error:
            self.assertIn(error.__class__, (BadValue, NotPossible, TextError))
            if function.__name__ in JUDGES:
                self.assertNotIn(parameter, JUDGED)
                self.assertIs(error.__class__, BadValue)
            if isinstance(error, BadValue) and error.name != "command":
                self.assertIn(error.name, arguments)
            return
        if function.__name__ in JUDGES:
            self.assertIn(found, (True, False))
            self.assertIs(found.__class__, bool)

    def test_points_7_and_8_desks_and_readers(self):
        for value in VALUES:
            desk = Desk(DOC, "abcd")
            for do in (desk.do, desk.word_at, Reader(DOC).read, lambda value: Desk(value, ""), lambda value: Desk(DOC, value), Reader):
                try:
                    do(value)
                except CutError as error:
                    self.assertIn(error.__class__, (BadValue, NotPossible))


class Errors(unittest.TestCase):
    def test_point_8_classes(self):
        below = (BadValue, TooLarge, NotPossible, TextError)
        self.assertEqual(CutError.__bases__, (ValueError,))
        for one in below:
            self.assertEqual(one.__bases__, (CutError,))
            for other in below:
                self.assertIs(issubclass(one, other), one is other)


class Repeating(unittest.TestCase):
    def test_point_2_lists_that_are_changed(self):
        for function, arguments in functions():
            # Two desks are never the same value, whatever they tell.
            if function.__name__ == "replayed":
                continue
            before = repr(arguments)
            found = function(*arguments.values())
            kept = repr(found)
            if isinstance(found, list):
                found.clear()
            self.assertEqual(repr(function(*arguments.values())), kept, function.__name__)
            self.assertEqual(repr(arguments), before)

    def test_points_2_and_3_no_lists_inside(self):
        # A list within what is returned could be changed by the caller, too.
        for function, arguments in functions():
            if function.__name__ != "replayed":
                found = function(*arguments.values())
                self.assertNotIn("[", repr(found)[1:], function.__name__)


if __name__ == "__main__":
    unittest.main()
