"""The reader: it gives out each word as soon as no further letter can change it.

Functions that the interface does not list serve the rest of the package. They
do not check their arguments, and take texts of any length.
"""

from greedycuts.errors import BadValue
from greedycuts.lists import LONGEST_WORD, check_list, check_text, find_beginnings, fits, order_by_length
from greedycuts.longest import find_match
from greedycuts.matches import find_starting


def may_grow(words, text, index):
    """Returns True if some word begins with the rest of the text from the index on and is longer."""
    # No word is longer than this much of the rest, so nothing behind it matters.
    rest = text[index:index + LONGEST_WORD]
    return any([len(word) > len(rest) and word.startswith(rest) for word, cost in words])


def read_letters(words, held, letters):
    """What the reader gives out on the letters, a list, and what it holds then.

    held is what it holds before.
    """
    # No later letter changes a word that is given out, so all letters can be put behind the held ones at once.
    text = held + letters
    given = []
    index = 0
    while index < len(text) and not may_grow(words, text, index):
        word = find_starting(words, text, index)[-1]
        given.append(word)
        index += len(word)
    return given, text[index:]


def after(words, text):
    """Returns the pair of the tuple of the words that are given out after the text, and of the held letters."""
    check_text(words, text)
    given, held = read_letters(words, "", text)
    return tuple(given), held


def extensions(words, text):
    """Returns the list of the words that are longer than what is held after the text and begin with it."""
    check_text(words, text)
    _, held = read_letters(words, "", text)
    return order_by_length([word for word, cost in words if len(word) > len(held) and word.startswith(held)])


def all_held(words):
    """Returns the list of all strings that the reader can hold, in order by length."""
    check_list(words)
    return find_beginnings(words)


class Reader:
    """A reader of a word list. It holds nothing at first."""

    def __init__(self, words):
        check_list(words)
        self._words = words
        self._letters = ""

    def read(self, piece):
        """Reads the letters of the piece. Returns the list of the words that are given out."""
        if not fits(self._words, piece):
            raise BadValue("piece")
        given, self._letters = read_letters(self._words, self._letters, piece)
        return given

    def held(self):
        """Returns the held letters."""
        return self._letters

    def finish(self):
        """Returns the list of the words of the longest match of the held letters; nothing is held then."""
        given = list(find_match(self._words, self._letters, 0))
        self._letters = ""
        return given
