"""The longest match, from the beginning and from the end.

Functions that the interface does not list serve the rest of the package. They
do not check their arguments, and take texts of any length.
"""

from greedycuts.cuts import find_ends, sum_costs
from greedycuts.lists import check_integer, check_text
from greedycuts.matches import find_ending, find_starting


def find_match(words, text, index):
    """The longest match of the rest of the text from the index on, a tuple."""
    match_words = []
    while index < len(text):
        word = find_starting(words, text, index)[-1]
        match_words.append(word)
        index += len(word)
    return tuple(match_words)


def find_match_from_end(words, text):
    """The longest match from the end, a tuple."""
    match_words = []
    index = len(text)
    while index > 0:
        word = find_ending(words, text, index)[-1]
        match_words.append(word)
        index -= len(word)
    return tuple(match_words[::-1])


def longest_match(words, text):
    """Returns the longest match of the text, a tuple of words."""
    check_text(words, text)
    return find_match(words, text, 0)


def match_from_end(words, text):
    """Returns the longest match from the end of the text, a tuple of words."""
    check_text(words, text)
    return find_match_from_end(words, text)


def match_costs(words, text):
    """Returns the pair of the costs of the longest match and of that from the end."""
    check_text(words, text)
    return sum_costs(words, find_match(words, text, 0)), sum_costs(words, find_match_from_end(words, text))


def match_from(words, text, index):
    """Returns the longest match of the rest of the text from the index on."""
    check_text(words, text)
    check_integer(index, 0, len(text), "index")
    return find_match(words, text, index)


def meeting(words, text, index):
    """Returns the least index that is an end of the longest match of the text and of that of the rest."""
    check_text(words, text)
    check_integer(index, 0, len(text), "index")
    ends = [0, *find_ends(find_match(words, text, 0), 0)]
    ends_of_rest = [index, *find_ends(find_match(words, text, index), index)]
    return min([end for end in ends_of_rest if end in ends])
