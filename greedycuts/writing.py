"""Writing word lists and cuts as texts."""

from greedycuts.cuts import is_row
from greedycuts.errors import BadValue
from greedycuts.lists import LONGEST_TEXT, check_list


def entry_text(word, cost):
    """The text of a word with its cost."""
    return word if cost == 1 else f"{word}:{cost}"


def words_text(words):
    """Returns the text of a word list."""
    check_list(words)
    return " ".join([entry_text(word, cost) for word, cost in words])


def cut_text(words, cut):
    """Returns the text of a cut of some text of the word list."""
    check_list(words)
    if not is_row(words, cut) or len("".join(cut)) > LONGEST_TEXT:
        raise BadValue("cut")
    return "|".join(cut)
