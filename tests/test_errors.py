"""Tests of greedycuts.errors: point 8 and the interface."""

import unittest

from greedycuts.errors import BadValue, CutError, NotPossible, TextError, TooLarge

BELOW = (BadValue, TooLarge, NotPossible, TextError)


class Errors(unittest.TestCase):
    def test_point_8_all_are_below_cut_error(self):
        self.assertTrue(issubclass(CutError, ValueError))
        for error in BELOW:
            self.assertTrue(issubclass(error, CutError), error)

    def test_point_8_none_is_below_another_one(self):
        for error in BELOW:
            for other in BELOW:
                self.assertEqual(issubclass(error, other), error is other)

    def test_attributes(self):
        self.assertEqual(BadValue("words").name, "words")
        self.assertEqual(TooLarge("commands").what, "commands")
        self.assertEqual(NotPossible("full").why, "full")
        error = TextError(3, "there is no word")
        self.assertEqual((error.column, error.words), (3, "there is no word"))

    def test_they_are_caught_as_value_errors(self):
        for error in (BadValue("a"), TooLarge("a"), NotPossible("a"), TextError(1, "a")):
            with self.assertRaises(ValueError) as caught:
                raise error
            self.assertIs(caught.exception, error)


if __name__ == "__main__":
    unittest.main()
