"""How much more the longest matches of one list cost than those of another one.

Functions that the interface does not list serve the rest of the package. They
do not check their arguments.
"""

from greedycuts.both import (
    check_common, check_lists, find_common, find_difference, find_gains, find_left, list_steps_of_both,
)
from greedycuts.lists import LONGEST_TEXT, order_by_length
from greedycuts.pairs import START
from greedycuts.ways import read_on


def find_entries(first, second):
    """The pairs of a word and a cost of the first list whose words are common texts, a list."""
    letters = find_common(first, second)
    return [(word, cost) for word, cost in first if all([letter in letters for letter in word])]


def find_alone(first, second):
    """The words of the first list that are common texts and no words of the second list, a list."""
    table = dict(second)
    return [word for word, cost in find_entries(first, second) if word not in table]


def first_with(steps, ends, greatest):
    """The first text, by length and then in alphabetical order, with the greatest difference.

    ends has what is left at each pair.
    """
    reached = {START: (0, "")}
    found = []
    while not found:
        found = [text for pair, (lack, text) in reached.items() if ends[pair] - lack == greatest]
        reached = read_on(steps, reached)
    return min(found)


def find_greatest(first, second, steps, sums):
    """The greatest difference and the first text that has it. sums are the greatest gains."""
    ends = {pair: find_left(first, second, pair) for pair in sums}
    greatest = max([number + ends[pair] for pair, number in sums.items()])
    return greatest, first_with(steps, ends, greatest)


def find_befores(steps):
    """For each pair the first text, by length and then in alphabetical order, that leads to it, a dict."""
    befores = {START: ""}
    # The steps stand in such an order that the first one to a pair ends its first text.
    for pair, letter, ahead, gain, loss in steps:
        if ahead not in befores:
            befores[ahead] = befores[pair] + letter
    return befores


def find_growing(steps):
    """The round that grows: the pair of its before and its cycle. There has to be one."""
    befores = find_befores(steps)
    reached = {pair: {pair: (0, "")} for pair in befores}
    found = []
    while not found:
        reached = {pair: read_on(steps, there) for pair, there in reached.items()}
        found = [
            (there[pair], len(befores[pair]), befores[pair])
            for pair, there in reached.items() if there.get(pair, (0, ""))[0] < 0
        ]
    (_, cycle), _, before = min(found)
    return before, cycle


def common_letters(first, second):
    """Returns the string of the common letters, in alphabetical order."""
    check_lists(first, second)
    return find_common(first, second)


def difference(first, second, text):
    """Returns the difference of the text, an integer."""
    check_lists(first, second)
    check_common(first, second, text, LONGEST_TEXT, "text")
    return find_difference(first, second, text)


def greatest_difference(first, second):
    """Returns ("greatest", number, text), or ("grows", before, cycle) if the differences have no greatest one."""
    check_lists(first, second)
    steps = list_steps_of_both(first, second)
    sums = find_gains(steps)
    if sums is None:
        return "grows", *find_growing(steps)
    return "greatest", *find_greatest(first, second, steps, sums)


def first_different(first, second):
    """Returns the first text that is cut differently, or None if there is none."""
    check_lists(first, second)
    # A text is cut alike if none of these words stands in it.
    texts = order_by_length(find_alone(first, second) + find_alone(second, first))
    return texts[0] if texts else None


def changed_words(first, second):
    """Returns the list of the changed words, by length and then in alphabetical order."""
    check_lists(first, second)
    table = dict(second)
    return order_by_length([word for word, cost in find_entries(first, second) if table.get(word) != cost])
