"""Whether a text can cost more if its first or its last letter is left out.

Functions that the interface does not list serve the rest of the package. They
do not check their arguments.
"""

from greedycuts.costs import find_first_cheapest, find_least
from greedycuts.cuts import gives_text, sum_costs
from greedycuts.errors import BadValue
from greedycuts.heights import right_heights
from greedycuts.lists import check_list, has_word

SIDES = ("first", "last")


def check_side(words, side):
    """Raises BadValue if the first argument is no word list, or the second one no side."""
    check_list(words)
    if side not in SIDES:
        raise BadValue("side")


def check_word_at(words, side, word):
    """Raises BadValue for the first argument that is wrong."""
    check_side(words, side)
    if not has_word(words, word):
        raise BadValue("word")


def find_rest(text, side):
    """The rest of the text, which has at least one letter."""
    return text[1:] if side == "first" else text[:-1]


def find_change(words, side, word):
    """The change of the word."""
    return find_least(words, find_rest(word, side)) - dict(words)[word]


def find_changes(words, side):
    """The changes of the words, a list in their order."""
    return [find_change(words, side, word) for word, cost in words]


def keeps_cost(words, side):
    """Returns True if leaving out letters at the side never costs more."""
    return max(find_changes(words, side)) <= 0


def has_no_dearer_end(words):
    """Returns True if no word costs more than a word that is a beginning of it."""
    return all([
        cost <= price
        for word, cost in words
        for other, price in words if word.startswith(other)
    ])


def is_cheap_cut(words, text, cut, cost):
    """Returns True if the value is a cut of the text that costs at most so much."""
    return gives_text(words, text, cut) and sum_costs(words, cut) <= cost


def change(words, side, word):
    """Returns the change of the word, an integer."""
    check_word_at(words, side, word)
    return find_change(words, side, word)


def greatest_change(words, side):
    """Returns the pair of the greatest change and the first word that has it."""
    check_side(words, side)
    changes = find_changes(words, side)
    greatest = max(changes)
    return greatest, words[changes.index(greatest)][0]


def never_costs_more(words, side):
    """Returns True if leaving out letters at the side never costs more, otherwise False."""
    check_side(words, side)
    return keeps_cost(words, side)


def first_dearer(words, side):
    """Returns the first word whose change is greater than 0, or None."""
    check_side(words, side)
    for word, cost in words:
        if find_change(words, side, word) > 0:
            return word
    return None


def rests(words, side):
    """Returns the tuple of the first cheapest cuts of the rests of the words, or None if it can cost more."""
    check_side(words, side)
    if not keeps_cost(words, side):
        return None
    return tuple([find_first_cheapest(words, find_rest(word, side)) for word, cost in words])


def accepts_rests(words, side, value):
    """Returns True if the value is rests, otherwise False."""
    check_side(words, side)
    if not isinstance(value, tuple) or len(value) != len(words):
        return False
    return all([
        is_cheap_cut(words, find_rest(word, side), cut, cost)
        for (word, cost), cut in zip(words, value)
    ])


def shows_more(words, side, word, heights):
    """Returns True if they are right heights of the rest, and the last one is greater than the word's cost."""
    check_word_at(words, side, word)
    return right_heights(words, find_rest(word, side), heights) and heights[-1] > dict(words)[word]


def is_closed(words, side):
    """Returns True if every rest of a word of at least two letters is a word, otherwise False."""
    check_side(words, side)
    return all([has_word(words, find_rest(word, side)) for word, cost in words if len(word) > 1])


def is_graded(words):
    """Returns True if no word costs more than a word that is a beginning of it, otherwise False."""
    check_list(words)
    return has_no_dearer_end(words)


def is_kind(words):
    """Returns True if leaving out first letters never costs more, and the word list is graded, otherwise False."""
    check_list(words)
    return keeps_cost(words, "first") and has_no_dearer_end(words)
