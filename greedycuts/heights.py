"""Heights: evidence that a cut is a cheapest one.

Functions that the interface does not list serve the rest of the package. They
do not check words and text, and take texts of any length.
"""

from greedycuts.cuts import gives_text, sum_costs
from greedycuts.lists import check_text, is_plain_integer
from greedycuts.matches import find_occurrences


def are_heights(text, value):
    """Returns True if the value is a tuple with one integer for each index of the text."""
    if not isinstance(value, tuple) or len(value) != len(text) + 1:
        return False
    return all([is_plain_integer(height) for height in value])


def right_heights(words, text, value):
    """Returns True if the value are right heights of the text."""
    if not are_heights(text, value) or value[0] != 0:
        return False
    table = dict(words)
    places = find_occurrences(words, text)
    return all([value[j] <= value[i] + table[text[i:j]] for i, j in places])


def accepts_heights(words, text, heights):
    """Returns True if the heights are right heights of the text, otherwise False."""
    check_text(words, text)
    return right_heights(words, text, heights)


def is_cheapest(words, text, cut, heights):
    """Returns True if it is a cut of the text that costs as much as the last one of the right heights."""
    check_text(words, text)
    if not gives_text(words, text, cut) or not right_heights(words, text, heights):
        return False
    return sum_costs(words, cut) == heights[-1]
