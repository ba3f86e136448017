"""The worst ratio of a word list and its excess, with evidence for both.

Functions that the interface does not list serve the rest of the package. They
do not check words.
"""

from math import gcd

from greedycuts.cuts import gives_text, sum_costs
from greedycuts.lists import check_list, is_plain_integer
from greedycuts.longest import find_match
from greedycuts.pairs import list_steps
from greedycuts.potentials import as_potentials, check_bound, find_potentials, right_potentials
from greedycuts.rounds import sum_round
from greedycuts.ways import (
    closed_along, cycle_behind, greatest_sums, letters_along, sum_way, totals_of, way_to,
)


def find_worst(words):
    """The worst ratio, a cycle that has it, and for it what greatest_sums tells: the sums and the last steps."""
    steps = list_steps(words)
    # With the ratio 0 each cycle makes the sums grow; each cycle that is found then has a greater ratio.
    a, b = 0, 1
    cycle = []
    sums, last, growing = greatest_sums(steps, a, b)
    while growing is not None:
        cycle = cycle_behind(last, growing)
        gain, loss = sum_way(cycle)
        a, b = gain // gcd(gain, loss), loss // gcd(gain, loss)
        sums, last, growing = greatest_sums(steps, a, b)
    return (a, b), cycle, sums, last


def find_answer(words):
    """An accepted answer about the word list."""
    (a, b), cycle, sums, last = find_worst(words)
    pair = cycle[0][0]
    repeated = (letters_along(way_to(last, pair)), letters_along(cycle), pair[1], closed_along(cycle))
    excess, end = totals_of(words, b, sums)[-1]
    way = way_to(last, end)
    return (a, b), excess, repeated, (letters_along(way), closed_along(way)), as_potentials(sums)


def is_fraction(value):
    """Returns True if the value is a pair of integers in lowest terms, the second one from 1 on."""
    if not isinstance(value, tuple) or len(value) != 2:
        return False
    if not all([is_plain_integer(number) for number in value]):
        return False
    return value[1] >= 1 and gcd(value[0], value[1]) == 1


def has_ratio(words, a, b, value):
    """Returns True if the value is an accepted round, and its gain and loss have the ratio a / b."""
    sums = sum_round(words, value)
    return sums is not None and sums[0] * b == sums[1] * a


def has_excess(words, a, b, excess, value):
    """Returns True if the value is a pair of a text and a cut of it that show the excess."""
    if not isinstance(value, tuple) or len(value) != 2:
        return False
    text, cut = value
    if not gives_text(words, text, cut):
        return False
    return b * sum_costs(words, find_match(words, text, 0)) - a * sum_costs(words, cut) == excess


def worst_ratio(words):
    """Returns the worst ratio, a pair (a, b) of integers in lowest terms."""
    check_list(words)
    return find_worst(words)[0]


def worst_excess(words):
    """Returns the excess, an integer."""
    check_list(words)
    return find_answer(words)[1]


def is_bound(words, a, b, c):
    """Returns True if the bound holds, otherwise False."""
    check_bound(words, a, b, c)
    return find_potentials(words, a, b, c) is not None


def answer_for(words):
    """Returns an accepted answer, a tuple (ratio, excess, round, shown, potentials)."""
    check_list(words)
    return find_answer(words)


def accepts_answer(words, value):
    """Returns True if the value is an accepted answer, otherwise False."""
    check_list(words)
    if not isinstance(value, tuple) or len(value) != 5:
        return False
    ratio, excess, repeated, shown, table = value
    if not is_fraction(ratio) or not is_plain_integer(excess):
        return False
    a, b = ratio
    return (
        has_ratio(words, a, b, repeated)
        and has_excess(words, a, b, excess, shown)
        and right_potentials(words, a, b, excess, table)
    )
