"""The least cost of a text, and what all or some cheapest cuts have.

Functions that the interface does not list serve the rest of the package. They
do not check their arguments, and take texts of any length.
"""

from greedycuts.cuts import sum_costs
from greedycuts.lists import check_integer, check_text
from greedycuts.longest import find_match
from greedycuts.matches import find_ending, find_occurrences, find_starting, keep_over


def costs_before(words, text):
    """For each index of the text, the least cost of what stands before it, a list."""
    table = dict(words)
    costs = [0]
    for index in range(1, len(text) + 1):
        ending = find_ending(words, text, index)
        costs.append(min([costs[index - len(word)] + table[word] for word in ending]))
    return costs


def costs_behind(words, text):
    """For each index of the text, the least cost of what stands behind it, a list."""
    table = dict(words)
    costs = [0] * (len(text) + 1)
    for index in reversed(range(len(text))):
        starting = find_starting(words, text, index)
        costs[index] = min([table[word] + costs[index + len(word)] for word in starting])
    return costs


def find_least(words, text):
    """The least cost of the text."""
    return costs_before(words, text)[-1]


def find_waste(words, text):
    """The waste of the text."""
    return sum_costs(words, find_match(words, text, 0)) - find_least(words, text)


def words_of_cheapest(words, text, behind, index):
    """The words with which cheapest cuts of the rest of the text begin, a list, the shorter ones first.

    behind is what costs_behind tells.
    """
    table = dict(words)
    starting = find_starting(words, text, index)
    return [word for word in starting if table[word] + behind[index + len(word)] == behind[index]]


def find_first_cheapest(words, text):
    """The first cheapest cut of the text, a tuple."""
    behind = costs_behind(words, text)
    cut = []
    index = 0
    while index < len(text):
        word = words_of_cheapest(words, text, behind, index)[0]
        cut.append(word)
        index += len(word)
    return tuple(cut)


def find_possible_words(words, text):
    """The possible places of the text, an ascending list."""
    table = dict(words)
    before = costs_before(words, text)
    behind = costs_behind(words, text)
    return [
        (i, j) for i, j in find_occurrences(words, text)
        if before[i] + table[text[i:j]] + behind[j] == behind[0]
    ]


def least_cost(words, text):
    """Returns the least cost of the text."""
    check_text(words, text)
    return find_least(words, text)


def waste(words, text):
    """Returns the waste of the text."""
    check_text(words, text)
    return find_waste(words, text)


def first_cheapest(words, text):
    """Returns the first cheapest cut of the text, a tuple of words."""
    check_text(words, text)
    return find_first_cheapest(words, text)


def count_cheapest(words, text):
    """Returns the number of the cheapest cuts of the text."""
    check_text(words, text)
    behind = costs_behind(words, text)
    counts = [0] * len(text) + [1]
    for index in reversed(range(len(text))):
        fitting = words_of_cheapest(words, text, behind, index)
        counts[index] = sum([counts[index + len(word)] for word in fitting])
    return counts[0]


def costs_of(words, text):
    """Returns the tuple of the least costs of the beginnings of the text, the shorter ones first."""
    check_text(words, text)
    return tuple(costs_before(words, text))


def cost_through(words, text, index):
    """Returns the least cost of the cuts that go through the index."""
    check_text(words, text)
    check_integer(index, 0, len(text), "index")
    return costs_before(words, text)[index] + costs_behind(words, text)[index]


def possible_boundaries(words, text):
    """Returns the list of the boundaries that some cheapest cut has, ascending."""
    check_text(words, text)
    before = costs_before(words, text)
    behind = costs_behind(words, text)
    return [index for index in range(1, len(text)) if before[index] + behind[index] == behind[0]]


def certain_boundaries(words, text):
    """Returns the list of the boundaries that every cheapest cut has, ascending."""
    check_text(words, text)
    places = find_possible_words(words, text)
    # A cheapest cut without the boundary has a word over it, at a possible place.
    return [index for index in range(1, len(text)) if not keep_over(places, index)]


def possible_words(words, text):
    """Returns the list of the places at which some cheapest cut has a word, ascending."""
    check_text(words, text)
    return find_possible_words(words, text)


def certain_words(words, text):
    """Returns the list of the places at which every cheapest cut has a word, ascending."""
    check_text(words, text)
    places = find_possible_words(words, text)
    # A cheapest cut without a word there has others for these letters, at possible places.
    return [place for place in places if count_sharing(places, place) == 1]


def count_sharing(places, place):
    """How many of the places have a letter with the place in common."""
    start, end = place
    return len([i for i, j in places if i < end and start < j])
