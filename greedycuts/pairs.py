"""Pairs of what the reader holds and of the tail of another cut of the same letters, and the steps between them.

Functions that the interface does not list serve the rest of the package. They
do not check their arguments.
"""

from greedycuts.cuts import sum_costs
from greedycuts.errors import BadValue
from greedycuts.lists import check_list, find_letters, has_word
from greedycuts.reader import may_grow, read_letters

START = ("", "")


def find_tails(words, tail, letter):
    """How the other cut can go on with the letter, an ascending list of pairs of its new tail and the loss."""
    longer = tail + letter
    ways = []
    if has_word(words, longer):
        ways.append(("", dict(words)[longer]))
    if may_grow(words, longer, 0):
        ways.append((longer, 0))
    return ways


def steps_with(words, held, tail, letter):
    """The steps from the pair with the letter, an ascending list of tuples (held, tail, gain, loss).

    The strings can be any, also such as no text leads to.
    """
    given, left = read_letters(words, held, letter)
    gain = sum_costs(words, given)
    return [(left, ahead, gain, loss) for ahead, loss in find_tails(words, tail, letter)]


def steps_on(words, pair):
    """All steps from the pair, a list of tuples (pair, letter, the pair to which it leads, gain, loss)."""
    held, tail = pair
    return [
        (pair, letter, (left, ahead), gain, loss)
        for letter in find_letters(words)
        for left, ahead, gain, loss in steps_with(words, held, tail, letter)
    ]


def follow_steps(steps_at):
    """The steps from START and from all pairs to which steps lead, a list.

    steps_at tells the steps from a pair, a list of tuples as steps_on does. A
    pair to which a step leads comes ahead of the steps from it, and a pair that
    is found by a shorter way ahead of the others.
    """
    found = [START]
    known = {START: True}
    steps = []
    index = 0
    while index < len(found):
        more = steps_at(found[index])
        index += 1
        steps.extend(more)
        for pair, letter, ahead, gain, loss in more:
            if ahead not in known:
                known[ahead] = True
                found.append(ahead)
    return steps


def list_steps(words):
    """The steps from all pairs of the word list, a list of tuples as steps_on tells them."""
    return follow_steps(lambda pair: steps_on(words, pair))


def find_pairs(words):
    """The pairs of the word list, an ascending list."""
    # Each of them has a step, as a tail can always go on to the end of a word.
    return sorted(set([pair for pair, letter, ahead, gain, loss in list_steps(words)]))


def pairs_of(words):
    """Returns the tuple of the pairs of the word list, ascending."""
    check_list(words)
    return tuple(find_pairs(words))


def steps_from(words, held, tail, letter):
    """Returns the list of the steps from the pair with the letter, tuples (held, tail, gain, loss), ascending."""
    check_list(words)
    pairs = find_pairs(words)
    if held not in [one for one, other in pairs]:
        raise BadValue("held")
    if (held, tail) not in pairs:
        raise BadValue("tail")
    if letter not in list(find_letters(words)):
        raise BadValue("letter")
    return steps_with(words, held, tail, letter)
