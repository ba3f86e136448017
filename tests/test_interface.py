"""Tests of the interface: its names stand in their files, with their arguments (points 7 and 8)."""

import importlib
import inspect
import unittest

FUNCTIONS = {
    "lists": {
        "is_list": "value", "is_text": "words value", "letters_of": "words", "beginnings_of": "words",
        "cost_of_word": "words word", "reversed_list": "words", "with_word": "words word cost",
        "without_word": "words word",
    },
    "matches": {
        "words_at": "words text index", "words_ending": "words text index", "longest_at": "words text index",
        "longest_ending": "words text index", "occurrences": "words text", "over": "words text index",
        "free_indexes": "words text",
    },
    "cuts": {
        "is_cut": "words text value", "cut_cost": "words text cut", "count_cuts": "words text",
        "nth_cut": "words text index", "index_of_cut": "words text value", "count_with": "words text many",
        "fewest_words": "words text", "boundaries_of": "words text cut", "cut_at": "words text boundaries",
        "is_finer": "words text one other", "common_cut": "words text one other",
    },
    "longest": {
        "longest_match": "words text", "match_from_end": "words text", "match_costs": "words text",
        "match_from": "words text index", "meeting": "words text index",
    },
    "rows": {
        "is_canonical": "words row", "first_conflict": "words row", "canonical": "words row",
        "followers": "words word", "count_texts": "words letters many",
    },
    "costs": {
        "least_cost": "words text", "waste": "words text", "first_cheapest": "words text",
        "count_cheapest": "words text", "costs_of": "words text", "cost_through": "words text index",
        "possible_boundaries": "words text", "certain_boundaries": "words text", "possible_words": "words text",
        "certain_words": "words text",
    },
    "heights": {"accepts_heights": "words text heights", "is_cheapest": "words text cut heights"},
    "reader": {"after": "words text", "extensions": "words text", "all_held": "words"},
    "certain": {
        "is_certain": "words text row", "first_contrary": "words text row", "accepts_contrary": "words text row rest",
    },
    "optimality": {
        "waste": "words text", "test_texts": "words", "wasteful": "words", "greatest_test_waste": "words",
        "always_best": "words", "counterexample": "words", "always_best_from_end": "words",
        "counterexample_from_end": "words",
    },
    "leaving": {
        "change": "words side word", "greatest_change": "words side", "never_costs_more": "words side",
        "first_dearer": "words side", "rests": "words side", "accepts_rests": "words side value",
        "shows_more": "words side word heights", "is_closed": "words side", "is_graded": "words", "is_kind": "words",
    },
    "pairs": {"pairs_of": "words", "steps_from": "words held tail letter"},
    "rounds": {"round_sums": "words value"},
    "potentials": {"are_right": "words a b c value", "potentials_for": "words a b c"},
    "worst": {
        "worst_ratio": "words", "worst_excess": "words", "is_bound": "words a b c", "answer_for": "words",
        "accepts_answer": "words value",
    },
    "comparing": {
        "common_letters": "first second", "difference": "first second text", "greatest_difference": "first second",
        "first_different": "first second", "changed_words": "first second",
    },
    "bounding": {
        "potentials_for": "first second", "accepts_bound": "first second bound table",
        "growth": "first second before cycle",
    },
    "lengths": {
        "greatest_waste": "words many", "worst_text": "words many", "potentials_by_letters": "words many",
        "accepts_by_letters": "words many bound table", "greatest_cost": "words budget", "text_within": "words budget",
    },
    "smallest": {"change": "old new"},
    "journals": {"replayed": "words text journal", "are_right": "words text records"},
    "scanning": {"scan": "text"},
    "reading": {"next_tokens": "text kind", "read_words": "text", "read_cut": "words text"},
    "writing": {"words_text": "words", "cut_text": "words cut"},
}
CLASSES = {
    "reader": {"Reader": {"__init__": "self words", "read": "self piece", "held": "self", "finish": "self"}},
    "desk": {
        "Desk": {
            "__init__": "self words text", "do": "self command", "undo": "self", "words": "self", "text": "self",
            "row": "self", "cost": "self", "least": "self", "word_at": "self index", "journal": "self",
            "records": "self",
        },
    },
}
ERRORS = {"CutError": None, "BadValue": "name", "TooLarge": "what", "NotPossible": "why", "TextError": "column words"}


def parameters(function):
    """The names of the parameters, none of which has a default value."""
    told = inspect.signature(function).parameters.values()
    assert all(one.default is inspect.Parameter.empty for one in told)
    return " ".join(one.name for one in told)


class Interface(unittest.TestCase):
    def test_functions(self):
        for name, functions in FUNCTIONS.items():
            module = importlib.import_module("greedycuts." + name)
            for function, told in functions.items():
                found = getattr(module, function)
                self.assertTrue(inspect.isfunction(found), function)
                self.assertEqual(found.__module__, "greedycuts." + name, function)
                self.assertEqual(parameters(found), told, function)

    def test_classes(self):
        for name, classes in CLASSES.items():
            module = importlib.import_module("greedycuts." + name)
            for one, methods in classes.items():
                found = getattr(module, one)
                self.assertTrue(inspect.isclass(found), one)
                self.assertEqual(found.__module__, "greedycuts." + name, one)
                for method, told in methods.items():
                    # The method stands in the class itself, not in a base class.
                    self.assertEqual(parameters(vars(found)[method]), told, method)

    def test_errors(self):
        module = importlib.import_module("greedycuts.errors")
        for name, told in ERRORS.items():
            found = getattr(module, name)
            self.assertEqual(found.__module__, "greedycuts.errors")
            if told is not None:
                self.assertEqual(parameters(found), told)


if __name__ == "__main__":
    unittest.main()
