"""Bounds for the differences of two lists: potentials as evidence, their judge, and rounds that grow.

Functions that the interface does not list serve the rest of the package. They
do not check the lists.
"""

from greedycuts.both import (
    check_common, check_lists, find_gains, find_left, list_steps_of_both, read_both, steps_of_both,
)
from greedycuts.errors import BadValue
from greedycuts.lists import check_integer, find_beginnings
from greedycuts.pairs import START
from greedycuts.potentials import as_potentials, is_held_triple

WIDEST_BOUND = 1000000
LONGEST_PIECE = 400


def are_held_triples(first, second, value):
    """Returns True if the value is a tuple of triples of what both readers can hold and an integer."""
    if not isinstance(value, tuple):
        return False
    ones = find_beginnings(first)
    others = find_beginnings(second)
    return all([is_held_triple(ones, others, triple) for triple in value])


def has_room_for_both(first, second, numbers, pair):
    """Returns True if the numbers rise along each step from the pair at least by what it gains."""
    return all([
        ahead in numbers and numbers[ahead] >= numbers[pair] + gain - loss
        for _, letter, ahead, gain, loss in steps_of_both(first, second, pair)
    ])


def right_for_both(first, second, bound, value):
    """Returns True if the value are right potentials for the bound."""
    if not are_held_triples(first, second, value):
        return False
    numbers = {(one, other): number for one, other, number in value}
    if len(numbers) != len(value) or numbers.get(START, -1) < 0:
        return False
    return all([
        number + find_left(first, second, pair) <= bound and has_room_for_both(first, second, numbers, pair)
        for pair, number in numbers.items()
    ])


def potentials_for(first, second):
    """Returns the told potentials, a tuple, or None if the differences grow without limit."""
    check_lists(first, second)
    sums = find_gains(list_steps_of_both(first, second))
    return None if sums is None else as_potentials(sums)


def accepts_bound(first, second, bound, table):
    """Returns True if the table are right potentials for the bound, otherwise False."""
    check_lists(first, second)
    check_integer(bound, -WIDEST_BOUND, WIDEST_BOUND, "bound")
    return right_for_both(first, second, bound, table)


def growth(first, second, before, cycle):
    """Returns the growth of the round, an integer, or None if it is no round."""
    check_lists(first, second)
    check_common(first, second, before, LONGEST_PIECE, "before")
    check_common(first, second, cycle, LONGEST_PIECE, "cycle")
    if cycle == "":
        raise BadValue("cycle")
    pair, _, _ = read_both(first, second, START, before)
    ahead, gain, loss = read_both(first, second, pair, cycle)
    return gain - loss if ahead == pair else None
