"""Ways along steps from pair to pair: the greatest sums, and cycles that make them grow without limit.

A step is a tuple (pair, letter, the pair to which it leads, gain, loss), as
follow_steps of greedycuts.pairs tells them; a way is a list of steps, each of
which goes on where the one before it has led. All functions here serve the
rest of the package, and none of them checks its arguments.
"""

from greedycuts.cuts import sum_costs
from greedycuts.longest import find_match
from greedycuts.pairs import START


def raise_sums(steps, a, b, sums, last):
    """Goes each step once, and puts in what becomes greater by it.

    sums has the greatest sum that was found for a pair, last the step that
    led to it. Returns the last pair whose sum became greater, or None.
    """
    raised = None
    for step in steps:
        pair, _, ahead, gain, loss = step
        number = sums[pair] + b * gain - a * loss
        if ahead not in sums or sums[ahead] < number:
            sums[ahead] = number
            last[ahead] = step
            raised = ahead
    return raised


def greatest_sums(steps, a, b):
    """For each pair the greatest b times the gains less a times the losses of a way to it from START.

    Returns a triple: a dict with these sums; a dict with the last step of a
    way that has it; and None. If there is no greatest sum for some pair, the
    third item is a pair from which last leads back into a cycle that can be
    gone again and again, and the sums mean nothing.
    """
    sums = {START: 0}
    last = {}
    raised = START
    # A way without a cycle has a step from each pair at most, so in the last round only a cycle raises a sum.
    for _ in range(len(set([step[0] for step in steps])) + 1):
        raised = raise_sums(steps, a, b, sums, last)
        if raised is None:
            return sums, last, None
    return sums, last, raised


def way_to(last, pair):
    """The way from START to the pair of which last tells the last steps. There is no cycle among them."""
    way = []
    while pair in last:
        way.append(last[pair])
        pair = last[pair][0]
    return way[::-1]


def cycle_behind(last, pair):
    """The cycle into which last leads back from the pair, a way from one of its pairs to the same."""
    # After so many steps back the cycle is reached, wherever it is.
    for _ in range(len(last)):
        pair = last[pair][0]
    way = [last[pair]]
    while way[-1][0] != pair:
        way.append(last[way[-1][0]])
    return way[::-1]


def sum_way(way):
    """The pair of the gain and the loss of all steps of the way."""
    return sum([step[3] for step in way]), sum([step[4] for step in way])


def letters_along(way):
    """The letters that are read along the way, a string."""
    return "".join([step[1] for step in way])


def closed_along(way):
    """The words that the other cut closes along the way, a tuple."""
    return tuple([tail + letter for (held, tail), letter, ahead, gain, loss in way if ahead[1] == ""])


def totals_of(words, b, sums):
    """Where texts can end: an ascending list of pairs of the sum at the end and the pair there."""
    return sorted([
        (number + b * sum_costs(words, find_match(words, held, 0)), (held, tail))
        for (held, tail), number in sums.items() if tail == ""
    ])


def keep_least(table, key, value):
    """Puts in the value for the key if there is none or only a greater one."""
    table[key] = min(table.get(key, value), value)


def read_on(steps, reached):
    """What is reached with one letter more.

    reached has, for each pair that is reached, a tuple (lack, text): the losses
    less the gains that are the least ones of a way to it, and the first of the
    texts, all of the same length, that have a way with them.
    """
    further = {}
    for pair, letter, ahead, gain, loss in steps:
        if pair in reached:
            lack, text = reached[pair]
            keep_least(further, ahead, (lack + loss - gain, text + letter))
    return further
