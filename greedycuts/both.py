"""The readers of two word lists side by side: pairs of what both hold, and the steps between them.

A step is a tuple as the steps of one list are, for greedycuts.ways: its gain is
the cost of what the first reader gives out, its loss that of what the second
one does. All functions here serve the rest of the package, and only those whose
names begin with check look at their arguments.
"""

from greedycuts.cuts import sum_costs
from greedycuts.errors import BadValue
from greedycuts.lists import find_letters, is_list
from greedycuts.longest import find_match
from greedycuts.pairs import START, follow_steps
from greedycuts.reader import read_letters
from greedycuts.ways import greatest_sums


def check_lists(first, second):
    """Raises BadValue for the first argument that is no word list."""
    if not is_list(first):
        raise BadValue("first")
    if not is_list(second):
        raise BadValue("second")


def find_common(first, second):
    """The common letters, a string in ascending order."""
    letters = find_letters(second)
    return "".join([letter for letter in find_letters(first) if letter in letters])


def check_common(first, second, value, most, name):
    """Raises BadValue(name) if the value is no string of at most so many common letters."""
    if not isinstance(value, str) or len(value) > most:
        raise BadValue(name)
    letters = find_common(first, second)
    if not all([letter in letters for letter in value]):
        raise BadValue(name)


def find_difference(first, second, text):
    """What the longest match of the text costs more by the first list than by the second one."""
    return sum_costs(first, find_match(first, text, 0)) - sum_costs(second, find_match(second, text, 0))


def find_left(first, second, pair):
    """What is left at the pair."""
    one, other = pair
    return sum_costs(first, find_match(first, one, 0)) - sum_costs(second, find_match(second, other, 0))


def read_both(first, second, pair, letters):
    """A triple: what both readers hold behind the letters, and the costs of what each of them gives out.

    pair is what they hold before.
    """
    one, other = pair
    given, left = read_letters(first, one, letters)
    given_by_other, left_by_other = read_letters(second, other, letters)
    return (left, left_by_other), sum_costs(first, given), sum_costs(second, given_by_other)


def steps_of_both(first, second, pair):
    """The steps from the pair, one for each common letter, a list in the order of the letters."""
    return [(pair, letter, *read_both(first, second, pair, letter)) for letter in find_common(first, second)]


def list_steps_of_both(first, second):
    """The steps from all pairs that common texts lead to, a list."""
    return follow_steps(lambda pair: steps_of_both(first, second, pair))


def find_gains(steps):
    """For each pair that common texts lead to, the greatest sum of gains, a dict, or None if some sum can grow."""
    sums, _, growing = greatest_sums(steps, 1, 1)
    return sums if growing is None else None
