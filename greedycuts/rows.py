"""Rows of words, those that are longest matches, and how many texts have one of so many words."""

from greedycuts.cuts import check_row
from greedycuts.lists import check_integer, check_list, check_word, find_beginnings, find_letters
from greedycuts.longest import find_match
from greedycuts.matches import find_starting
from greedycuts.reader import read_letters

LONGEST_ROW = 30
MOST_TO_COUNT = 20


def check_list_and_row(words, row):
    """Raises BadValue if the first argument is no word list, or the second one no row of at most 30 words."""
    check_list(words)
    check_row(words, row, LONGEST_ROW)


def find_conflict(words, row):
    """The least index of a word of the row that is in conflict, or None."""
    text = "".join(row)
    at = 0
    for index, word in enumerate(row):
        if find_starting(words, text, at)[-1] != word:
            return index
        at += len(word)
    return None


def is_canonical(words, row):
    """Returns True if the row is canonical, otherwise False."""
    check_list_and_row(words, row)
    return find_conflict(words, row) is None


def first_conflict(words, row):
    """Returns the least index of a word of the row that is in conflict, or None."""
    check_list_and_row(words, row)
    return find_conflict(words, row)


def canonical(words, row):
    """Returns the longest match of the text that the row makes up."""
    check_list_and_row(words, row)
    return find_match(words, "".join(row), 0)


def followers(words, word):
    """Returns the tuple of the words that make a canonical row with the word in front of them."""
    check_word(words, word)
    return tuple([other for other, cost in words if find_conflict(words, (word, other)) is None])


def find_steps(words):
    """For each string that the reader can hold, what each letter leads to.

    A dict with lists of pairs: how many words the reader gives out on the
    letter, and what it holds then.
    """
    steps = {}
    for held in find_beginnings(words):
        read = [read_letters(words, held, letter) for letter in find_letters(words)]
        steps[held] = [(len(given), left) for given, left in read]
    return steps


def count_one_letter_more(steps, counts):
    """The numbers of the texts that have one letter more.

    A number belongs to a pair: what the reader holds after the text, and how
    many words it has given out.
    """
    more = {}
    for (held, given), number in counts.items():
        for many, left in steps[held]:
            pair = (left, given + many)
            more[pair] = more.get(pair, 0) + number
    return more


def count_texts(words, letters, many):
    """Returns the number of the texts with so many letters whose longest match has so many words."""
    check_list(words)
    check_integer(letters, 0, MOST_TO_COUNT, "letters")
    check_integer(many, 0, MOST_TO_COUNT, "many")
    steps = find_steps(words)
    counts = {("", 0): 1}
    for _ in range(letters):
        counts = count_one_letter_more(steps, counts)
    # At the end the longest match of the held letters is given out, too.
    return sum([
        number for (held, given), number in counts.items()
        if given + len(find_match(words, held, 0)) == many
    ])
