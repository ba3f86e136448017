"""Potentials: evidence that a bound holds.

Functions that the interface does not list serve the rest of the package. They
do not check words and the numbers of the bound, which can be of any size.
"""

from greedycuts.cuts import sum_costs
from greedycuts.lists import check_integer, check_list, has_letters, is_plain_integer
from greedycuts.longest import find_match
from greedycuts.pairs import START, list_steps, steps_on
from greedycuts.ways import greatest_sums, totals_of

MOST_A = 1000
MOST_B = 1000
MOST_C = 100000


def check_bound(words, a, b, c):
    """Raises BadValue for the first argument that is wrong."""
    check_list(words)
    check_integer(a, 0, MOST_A, "a")
    check_integer(b, 1, MOST_B, "b")
    check_integer(c, 0, MOST_C, "c")


def is_triple(words, value):
    """Returns True if the value is a tuple of two strings of letters of the list and an integer."""
    if not isinstance(value, tuple) or len(value) != 3:
        return False
    held, tail, number = value
    return has_letters(words, held) and has_letters(words, tail) and is_plain_integer(number)


def is_held_triple(ones, others, value):
    """Returns True if the value is a tuple of one string of each of both lists and an integer."""
    if not isinstance(value, tuple) or len(value) != 3:
        return False
    return value[0] in ones and value[1] in others and is_plain_integer(value[2])


def are_ascending(triples):
    """Returns True if the pairs of the triples are different and in ascending order."""
    pairs = [(held, tail) for held, tail, number in triples]
    return pairs == sorted(set(pairs))


def are_potentials(words, value):
    """Returns True if the value has the form of potentials."""
    if not isinstance(value, tuple) or not all([is_triple(words, triple) for triple in value]):
        return False
    return are_ascending(value)


def has_room(words, a, b, pair, number, numbers):
    """Returns True if each step from the pair leads to one with a number that is great enough.

    number is that of the pair itself, numbers has those to which the steps lead.
    """
    return all([
        ahead in numbers and numbers[ahead] >= number + b * gain - a * loss
        for _, letter, ahead, gain, loss in steps_on(words, pair)
    ])


def ends_below(words, b, c, held, number):
    """Returns True if the number is still at most c when the longest match of the held letters is paid, too."""
    return number + b * sum_costs(words, find_match(words, held, 0)) <= c


def right_potentials(words, a, b, c, value):
    """Returns True if the value are potentials that are right for the bound."""
    if not are_potentials(words, value):
        return False
    numbers = {(held, tail): number for held, tail, number in value}
    if numbers.get(START, -1) < 0:
        return False
    if not all([ends_below(words, b, c, held, number) for held, tail, number in value if tail == ""]):
        return False
    return all([has_room(words, a, b, pair, number, numbers) for pair, number in numbers.items()])


def as_potentials(sums):
    """The potentials with these numbers for the pairs, a tuple."""
    return tuple(sorted([(held, tail, number) for (held, tail), number in sums.items()]))


def find_potentials(words, a, b, c):
    """Right potentials, a tuple, or None if the bound does not hold."""
    sums, _, growing = greatest_sums(list_steps(words), a, b)
    # Each pair leads on to the end of some text, so no sum can grow without limit if a bound holds.
    if growing is not None or totals_of(words, b, sums)[-1][0] > c:
        return None
    return as_potentials(sums)


def are_right(words, a, b, c, value):
    """Returns True if the value are potentials that are right for the bound, otherwise False."""
    check_bound(words, a, b, c)
    return right_potentials(words, a, b, c, value)


def potentials_for(words, a, b, c):
    """Returns right potentials, a tuple, or None if the bound does not hold."""
    check_bound(words, a, b, c)
    return find_potentials(words, a, b, c)
