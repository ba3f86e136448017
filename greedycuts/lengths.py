"""How bad longest match can be for texts of so many letters, and for texts that need not cost more than so much.

Functions that the interface does not list serve the rest of the package. They
do not check their arguments.
"""

from greedycuts.cuts import sum_costs
from greedycuts.lists import LONGEST_TEXT, check_integer, check_list, find_beginnings
from greedycuts.longest import find_match
from greedycuts.pairs import START, list_steps
from greedycuts.potentials import are_ascending, as_potentials, ends_below, has_room, is_held_triple
from greedycuts.reader import read_letters
from greedycuts.ways import keep_least, read_on

GREATEST_BOUND = 1000
GREATEST_BUDGET = 30


def check_many(words, many):
    """Raises BadValue if the first argument is no word list, or the second one no number of letters."""
    check_list(words)
    check_integer(many, 0, LONGEST_TEXT, "many")


def check_budget(words, budget):
    """Raises BadValue if the first argument is no word list, or the second one no budget."""
    check_list(words)
    check_integer(budget, 0, GREATEST_BUDGET, "budget")


def reach_by_letters(words, many):
    """For each number of letters up to many, what so many steps reach: a list of dicts as read_on makes them."""
    steps = list_steps(words)
    rows = [{START: (0, "")}]
    for _ in range(many):
        rows.append(read_on(steps, rows[-1]))
    return rows


def find_worst_text(words, many):
    """The pair of the greatest waste of so many letters and the worst text."""
    reached = reach_by_letters(words, many)[-1]
    lack, text = min([
        (lack - sum_costs(words, find_match(words, held, 0)), text)
        for (held, tail), (lack, text) in reached.items() if tail == ""
    ])
    return -lack, text


def is_row_of_triples(beginnings, value):
    """Returns True if the value is a tuple of triples of two beginnings and an integer, in ascending order."""
    if not isinstance(value, tuple):
        return False
    return all([is_held_triple(beginnings, beginnings, triple) for triple in value]) and are_ascending(value)


def rises_along(words, row, following):
    """Returns True if each step from the pairs of the row leads to a great enough number in the following one."""
    numbers = {(held, tail): number for held, tail, number in following}
    return all([has_room(words, 1, 1, (held, tail), number, numbers) for held, tail, number in row])


def right_by_letters(words, many, bound, value):
    """Returns True if the value are right potentials by letters."""
    if not isinstance(value, tuple) or len(value) != many + 1:
        return False
    beginnings = find_beginnings(words)
    if not all([is_row_of_triples(beginnings, row) for row in value]):
        return False
    if not any([(held, tail) == START and number >= 0 for held, tail, number in value[0]]):
        return False
    if not all([rises_along(words, row, following) for row, following in zip(value, value[1:])]):
        return False
    return all([ends_below(words, 1, bound, held, number) for held, tail, number in value[-1] if tail == ""])


def extend_by_word(words, reached, spent):
    """The texts of which a cut costs exactly so much, from those with a cut that costs less.

    reached has, for each cost that is less, a dict: for what the reader holds
    after such a text the least pair of the cost of what it has given out, as a
    negative number, and of a text.
    """
    further = {}
    for word, cost in words:
        if cost <= spent:
            for held, (less, text) in reached[spent - cost].items():
                given, left = read_letters(words, held, word)
                keep_least(further, left, (less - sum_costs(words, given), text + word))
    return further


def find_dearest(words, budget):
    """The pair of the greatest cost within the budget and a text that has it."""
    reached = [{"": (0, "")}]
    for spent in range(1, budget + 1):
        reached.append(extend_by_word(words, reached, spent))
    less, text = min([
        (less - sum_costs(words, find_match(words, held, 0)), text)
        for table in reached for held, (less, text) in table.items()
    ])
    return -less, text


def greatest_waste(words, many):
    """Returns the greatest waste of so many letters."""
    check_many(words, many)
    return find_worst_text(words, many)[0]


def worst_text(words, many):
    """Returns the first text, as a string, of those of so many letters with the greatest waste."""
    check_many(words, many)
    return find_worst_text(words, many)[1]


def potentials_by_letters(words, many):
    """Returns right potentials by letters for the greatest waste, a tuple of rows."""
    check_many(words, many)
    rows = reach_by_letters(words, many)
    return tuple([as_potentials({pair: -lack for pair, (lack, text) in row.items()}) for row in rows])


def accepts_by_letters(words, many, bound, table):
    """Returns True if the table are right potentials by letters for so many letters and the bound."""
    check_many(words, many)
    check_integer(bound, 0, GREATEST_BOUND, "bound")
    return right_by_letters(words, many, bound, table)


def greatest_cost(words, budget):
    """Returns the greatest cost of the longest match of a text whose least cost is at most the budget."""
    check_budget(words, budget)
    return find_dearest(words, budget)[0]


def text_within(words, budget):
    """Returns a text whose least cost is at most the budget, and whose longest match has the greatest cost."""
    check_budget(words, budget)
    return find_dearest(words, budget)[1]
