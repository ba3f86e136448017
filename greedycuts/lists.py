"""Word lists and their texts.

Functions that the interface does not list serve the rest of the package. They
take for granted that words is a word list, unless their name begins with check.
"""

from greedycuts.errors import BadValue

LETTERS = "abcdefghijklmnopqrstuvwxyz"
MOST_WORDS = 8
LONGEST_WORD = 4
DEAREST = 9
LONGEST_TEXT = 30


def is_plain_integer(value):
    """Returns True if the value is an integer of any size."""
    # True and False are integers for Python, but not for this program.
    return isinstance(value, int) and not isinstance(value, bool)


def is_integer(value, low, high):
    """Returns True if the value is an integer from low to high."""
    return is_plain_integer(value) and low <= value <= high


def is_word(value):
    """Returns True if the value has the form of a word, in whatever list."""
    if not isinstance(value, str) or not 1 <= len(value) <= LONGEST_WORD:
        return False
    return all([letter in LETTERS for letter in value])


def is_entry(value):
    """Returns True if the value is a pair of a word and a cost."""
    if not isinstance(value, tuple) or len(value) != 2:
        return False
    return is_word(value[0]) and is_integer(value[1], 1, DEAREST)


def is_list(value):
    """Returns True if the value is a word list, otherwise False."""
    if not isinstance(value, tuple) or not 1 <= len(value) <= MOST_WORDS:
        return False
    if not all([is_entry(pair) for pair in value]):
        return False
    spelled = [pair[0] for pair in value]
    if spelled != sorted(set(spelled)):
        return False
    return all([letter in spelled for word in spelled for letter in word])


def find_letters(words):
    """The letters of the list, a string in ascending order."""
    return "".join([word for word, cost in words if len(word) == 1])


def has_letters(words, value):
    """Returns True if the value is a string of letters of the list, of any length."""
    if not isinstance(value, str):
        return False
    letters = find_letters(words)
    return all([letter in letters for letter in value])


def fits(words, value):
    """Returns True if the value is a text of the list."""
    return has_letters(words, value) and len(value) <= LONGEST_TEXT


def has_word(words, value):
    """Returns True if the value is a word of the list."""
    return isinstance(value, str) and value in dict(words)


def check_integer(value, low, high, name):
    """Raises BadValue(name) if the value is no integer from low to high."""
    if not is_integer(value, low, high):
        raise BadValue(name)


def check_list(words):
    """Raises BadValue if the argument is no word list."""
    if not is_list(words):
        raise BadValue("words")


def check_text(words, text):
    """Raises BadValue if the first argument is no word list, or the second one no text of it."""
    check_list(words)
    if not fits(words, text):
        raise BadValue("text")


def check_word(words, word):
    """Raises BadValue if the first argument is no word list, or the second one no word of it."""
    check_list(words)
    if not has_word(words, word):
        raise BadValue("word")


def order_by_length(strings):
    """The different ones of the strings, a list in order by length."""
    return sorted(sorted(set(strings)), key=len)


def is_text(words, value):
    """Returns True if the value is a text of the word list, otherwise False."""
    check_list(words)
    return fits(words, value)


def letters_of(words):
    """Returns the letters of the word list, a string in ascending order."""
    check_list(words)
    return find_letters(words)


def find_beginnings(words):
    """The proper beginnings of the words, a list in order by length."""
    return order_by_length([word[:many] for word, cost in words for many in range(len(word))])


def beginnings_of(words):
    """Returns the tuple of the beginnings of the word list, in order by length."""
    check_list(words)
    return tuple(find_beginnings(words))


def cost_of_word(words, word):
    """Returns the cost of the word."""
    check_word(words, word)
    return dict(words)[word]


def turn_list(words):
    """The reversed word list."""
    return tuple(sorted([(word[::-1], cost) for word, cost in words]))


def reversed_list(words):
    """Returns the word list with the letters of each word in reversed sequence."""
    check_list(words)
    return turn_list(words)


def with_word(words, word, cost):
    """Returns the word list with the word put in at this cost."""
    check_list(words)
    if not is_word(word):
        raise BadValue("word")
    check_integer(cost, 1, DEAREST, "cost")
    return list_or_error([*without_entry(words, word), (word, cost)])


def without_word(words, word):
    """Returns the word list with the word taken out."""
    check_word(words, word)
    return list_or_error(without_entry(words, word))


def without_entry(words, word):
    """The pairs of the other words, a list."""
    return [pair for pair in words if pair[0] != word]


def list_or_error(pairs):
    """The word list with these pairs; BadValue("word") if they do not make up one."""
    made = tuple(sorted(pairs))
    if not is_list(made):
        raise BadValue("word")
    return made
