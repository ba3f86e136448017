"""Whether longest match is always best, and the first text that shows that it is not.

Functions that the interface does not list serve the rest of the package. They
do not check their arguments.
"""

from greedycuts.costs import find_waste
from greedycuts.lists import check_list, check_text, order_by_length, turn_list


def find_test_texts(words):
    """The test texts of the word list, a list in order by length."""
    ends = [other[index:] for other, price in words for index in range(1, len(other) + 1)]
    return order_by_length([word + end for word, cost in words for end in ends])


def find_wasteful(words):
    """The test texts for which longest match is not best, a list in order by length."""
    return [text for text in find_test_texts(words) if find_waste(words, text) > 0]


def find_wasteful_from_end(words):
    """The reversed test texts of the reversed list with a waste there, a list in order by length."""
    return order_by_length([text[::-1] for text in find_wasteful(turn_list(words))])


def first_or_none(texts):
    """The first one of the texts, or None if there is none."""
    return texts[0] if texts else None


def waste(words, text):
    """Returns the waste of the text."""
    check_text(words, text)
    return find_waste(words, text)


def test_texts(words):
    """Returns the list of the test texts, in order by length."""
    check_list(words)
    return find_test_texts(words)


def wasteful(words):
    """Returns the list of the test texts for which longest match is not best, in order by length."""
    check_list(words)
    return find_wasteful(words)


def greatest_test_waste(words):
    """Returns the greatest waste of a test text."""
    check_list(words)
    return max([find_waste(words, text) for text in find_test_texts(words)])


def always_best(words):
    """Returns True if longest match is always best, otherwise False."""
    check_list(words)
    return not find_wasteful(words)


def counterexample(words):
    """Returns the first text for which longest match is not best, or None."""
    check_list(words)
    # Every text with the fewest letters for which it is not best is a test text.
    return first_or_none(find_wasteful(words))


def always_best_from_end(words):
    """Returns True if longest match from the end is always best, otherwise False."""
    check_list(words)
    return not find_wasteful_from_end(words)


def counterexample_from_end(words):
    """Returns the first text for which longest match from the end is not best, or None."""
    check_list(words)
    return first_or_none(find_wasteful_from_end(words))
