"""The cuts of a text: their number, their order, their boundaries.

Functions that the interface does not list serve the rest of the package. They
do not check words and text, and take texts of any length.
"""

from greedycuts.errors import BadValue
from greedycuts.lists import LONGEST_TEXT, check_integer, check_text, has_word
from greedycuts.matches import find_starting


def is_row(words, value):
    """Returns True if the value is a tuple of words of the list."""
    return isinstance(value, tuple) and all([has_word(words, word) for word in value])


def gives_text(words, text, value):
    """Returns True if the value is a cut of the text."""
    return is_row(words, value) and "".join(value) == text


def sum_costs(words, row):
    """The sum of the costs of the words of the row."""
    table = dict(words)
    return sum([table[word] for word in row])


def find_ends(row, index):
    """The indexes at which the words of the row end if the first one begins at the index, a list."""
    ends = []
    for word in row:
        index += len(word)
        ends.append(index)
    return ends


def find_boundaries(cut):
    """The boundaries of the cut, an ascending list."""
    return find_ends(cut[:-1], 0)


def count_rests(words, text):
    """For each index of the text, the number of the cuts of the rest from there on, a list."""
    counts = [0] * len(text) + [1]
    for index in reversed(range(len(text))):
        starting = find_starting(words, text, index)
        counts[index] = sum([counts[index + len(word)] for word in starting])
    return counts


def cut_between(words, text, boundaries):
    """The cut with exactly these boundaries, or None if there is none."""
    if text == "":
        return ()
    places = [0, *boundaries, len(text)]
    parts = tuple([text[i:j] for i, j in zip(places, places[1:])])
    return parts if is_row(words, parts) else None


def check_cut(words, text, value, name):
    """Raises BadValue(name) if the value is no cut of the text."""
    if not gives_text(words, text, value):
        raise BadValue(name)


def check_row(words, value, most):
    """Raises BadValue if the value is no row of at most so many words."""
    if not is_row(words, value) or len(value) > most:
        raise BadValue("row")


def check_boundaries(text, value):
    """Raises BadValue if the value cannot be the boundaries of a cut of some list."""
    if not isinstance(value, tuple):
        raise BadValue("boundaries")
    least = 1
    for index in value:
        check_integer(index, least, len(text) - 1, "boundaries")
        least = index + 1


def is_cut(words, text, value):
    """Returns True if the value is a cut of the text, otherwise False."""
    check_text(words, text)
    return gives_text(words, text, value)


def cut_cost(words, text, cut):
    """Returns the cost of the cut."""
    check_text(words, text)
    check_cut(words, text, cut, "cut")
    return sum_costs(words, cut)


def count_cuts(words, text):
    """Returns the number of the cuts of the text."""
    check_text(words, text)
    return count_rests(words, text)[0]


def nth_cut(words, text, index):
    """Returns the cut with this index."""
    check_text(words, text)
    counts = count_rests(words, text)
    check_integer(index, 0, counts[0] - 1, "index")
    cut = []
    at = 0
    while at < len(text):
        for word in find_starting(words, text, at):
            behind = counts[at + len(word)]
            if index < behind:
                break
            # All cuts that go on with this shorter word come before the one that is looked for.
            index -= behind
        cut.append(word)
        at += len(word)
    return tuple(cut)


def index_of_cut(words, text, value):
    """Returns the index of the value, or None if it is not a cut of the text."""
    check_text(words, text)
    if not gives_text(words, text, value):
        return None
    counts = count_rests(words, text)
    index = 0
    at = 0
    for word in value:
        shorter = [other for other in find_starting(words, text, at) if len(other) < len(word)]
        index += sum([counts[at + len(other)] for other in shorter])
        at += len(word)
    return index


def count_one_word_more(words, text, counts):
    """From the number of rows of words up to each index, that of the rows with one word more."""
    more = [0] * len(counts)
    for index in range(len(text)):
        for word in find_starting(words, text, index):
            more[index + len(word)] += counts[index]
    return more


def count_with(words, text, many):
    """Returns the number of the cuts with so many words."""
    check_text(words, text)
    check_integer(many, 0, LONGEST_TEXT, "many")
    counts = [1] + [0] * len(text)
    for _ in range(many):
        counts = count_one_word_more(words, text, counts)
    return counts[len(text)]


def fewest_words(words, text):
    """Returns the least number of words of a cut of the text."""
    check_text(words, text)
    fewest = [0] * (len(text) + 1)
    for index in reversed(range(len(text))):
        starting = find_starting(words, text, index)
        fewest[index] = 1 + min([fewest[index + len(word)] for word in starting])
    return fewest[0]


def boundaries_of(words, text, cut):
    """Returns the tuple of the boundaries of the cut."""
    check_text(words, text)
    check_cut(words, text, cut, "cut")
    return tuple(find_boundaries(cut))


def cut_at(words, text, boundaries):
    """Returns the cut with exactly these boundaries, or None if there is none."""
    check_text(words, text)
    check_boundaries(text, boundaries)
    return cut_between(words, text, boundaries)


def check_two_cuts(words, text, one, other):
    """Raises BadValue for the first argument that is wrong."""
    check_text(words, text)
    check_cut(words, text, one, "one")
    check_cut(words, text, other, "other")


def is_finer(words, text, one, other):
    """Returns True if the cut `one` is finer than the cut `other`, otherwise False."""
    check_two_cuts(words, text, one, other)
    boundaries = find_boundaries(one)
    return len(one) > len(other) and all([index in boundaries for index in find_boundaries(other)])


def common_cut(words, text, one, other):
    """Returns the common cut of both, or None if there is none."""
    check_two_cuts(words, text, one, other)
    boundaries = find_boundaries(one)
    return cut_between(words, text, [index for index in find_boundaries(other) if index in boundaries])
