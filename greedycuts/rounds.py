"""Rounds: evidence that the worst ratio is at least so much.

Functions that the interface does not list serve the rest of the package. They
do not check words.
"""

from greedycuts.cuts import is_row, sum_costs
from greedycuts.lists import check_list, has_letters
from greedycuts.reader import read_letters


def is_round(words, value):
    """Returns True if the value has the form of a round."""
    if not isinstance(value, tuple) or len(value) != 4:
        return False
    before, cycle, tail, row = value
    if not all([has_letters(words, text) for text in (before, cycle, tail)]):
        return False
    return cycle != "" and before.endswith(tail) and is_row(words, row)


def sum_round(words, value):
    """The pair of the gain and the loss if the value is an accepted round, otherwise None."""
    if not is_round(words, value):
        return None
    before, cycle, tail, row = value
    _, held = read_letters(words, "", before)
    given, left = read_letters(words, held, cycle)
    if left != held or tail + cycle != "".join(row) + tail:
        return None
    return sum_costs(words, given), sum_costs(words, row)


def round_sums(words, value):
    """Returns the pair of the gain and the loss if the value is an accepted round, otherwise None."""
    check_list(words)
    return sum_round(words, value)
