"""What is certain of the longest match of a text whatever follows, and contraries that show what is not.

Functions that the interface does not list serve the rest of the package. They
do not check their arguments.
"""

from greedycuts.cuts import check_row
from greedycuts.lists import check_text, find_letters, fits
from greedycuts.longest import find_match
from greedycuts.reader import read_letters

LONGEST_ROW = 40
# If a tuple is not certain after a text, there is a contrary of at most so many letters.
LONGEST_CONTRARY = 3


def check_row_after(words, text, row):
    """Raises BadValue for the first argument that is wrong."""
    check_text(words, text)
    check_row(words, row, LONGEST_ROW)


def begins_given(words, text, row):
    """Returns True if the row begins what the reader has given out after the text."""
    given, _ = read_letters(words, "", text)
    return tuple(given[:len(row)]) == row


def is_contrary(words, text, row, rest):
    """Returns True if the longest match of the text with the rest behind it does not begin with the row."""
    return find_match(words, text + rest, 0)[:len(row)] != row


def find_rests(words):
    """All strings that the first contrary can be, a list in order by length."""
    letters = find_letters(words)
    found = [""]
    longest = [""]
    for _ in range(LONGEST_CONTRARY):
        longest = [rest + letter for rest in longest for letter in letters]
        found = found + longest
    return found


def is_certain(words, text, row):
    """Returns True if the row is certain after the text, otherwise False."""
    check_row_after(words, text, row)
    return begins_given(words, text, row)


def first_contrary(words, text, row):
    """Returns the first contrary in order by length, or None if the row is certain."""
    check_row_after(words, text, row)
    if begins_given(words, text, row):
        return None
    for rest in find_rests(words):
        if is_contrary(words, text, row, rest):
            return rest
    return None


def accepts_contrary(words, text, row, rest):
    """Returns True if the rest is a contrary, otherwise False."""
    check_row_after(words, text, row)
    return fits(words, rest) and is_contrary(words, text, row, rest)
