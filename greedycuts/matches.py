"""Where the words of a word list stand in a text.

The functions whose names begin with `find` serve the rest of the package. They
do not check their arguments, and take texts of any length.
"""

from greedycuts.lists import check_integer, check_text


def find_starting(words, text, index):
    """The words that begin at the index, a list, the shorter ones first."""
    # All of them begin the same letters, so their order in the word list is that by length.
    return [word for word, cost in words if text.startswith(word, index)]


def find_ending(words, text, index):
    """The words that end at the index, a list, the shorter ones first."""
    return sorted([word for word, cost in words if text.endswith(word, 0, index)], key=len)


def find_occurrences(words, text):
    """The occurrences of the words in the text, an ascending list."""
    return [
        (index, index + len(word))
        for index in range(len(text))
        for word in find_starting(words, text, index)
    ]


def keep_over(places, index):
    """Those of the places (i, j) that are over the index, a list."""
    return [(i, j) for i, j in places if i < index < j]


def words_at(words, text, index):
    """Returns the tuple of the words that begin at the index, the shorter ones first."""
    check_text(words, text)
    check_integer(index, 0, len(text) - 1, "index")
    return tuple(find_starting(words, text, index))


def words_ending(words, text, index):
    """Returns the tuple of the words that end at the index, the shorter ones first."""
    check_text(words, text)
    check_integer(index, 1, len(text), "index")
    return tuple(find_ending(words, text, index))


def longest_at(words, text, index):
    """Returns the longest word that begins at the index."""
    return words_at(words, text, index)[-1]


def longest_ending(words, text, index):
    """Returns the longest word that ends at the index."""
    return words_ending(words, text, index)[-1]


def occurrences(words, text):
    """Returns the list of the occurrences of the text, ascending."""
    check_text(words, text)
    return find_occurrences(words, text)


def over(words, text, index):
    """Returns the list of the occurrences that are over the index."""
    check_text(words, text)
    check_integer(index, 0, len(text), "index")
    return keep_over(find_occurrences(words, text), index)


def free_indexes(words, text):
    """Returns the list of the free indexes of the text, ascending."""
    check_text(words, text)
    places = find_occurrences(words, text)
    return [index for index in range(len(text) + 1) if not keep_over(places, index)]
