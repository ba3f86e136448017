"""The commands of a desk: what their right form is, what stands against them, and what they do.

All functions here serve the rest of the package. They take for granted that
words is a word list and text a text of it.
"""

from greedycuts.lists import (
    DEAREST, LONGEST_TEXT, MOST_WORDS, fits, has_letters, has_word, is_integer, is_word, without_entry,
)

# How many items a command has, the word that begins it included.
SIZES = {"insert": 3, "remove": 3, "replace": 4, "add": 3, "drop": 2}


def is_command(words, text, value):
    """Returns True if the value is a command of a right form for the list and the text."""
    if not isinstance(value, tuple) or value == () or not isinstance(value[0], str):
        return False
    if SIZES.get(value[0]) != len(value):
        return False
    if value[0] == "add":
        return is_word(value[1]) and is_integer(value[2], 1, DEAREST)
    if value[0] == "drop":
        return isinstance(value[1], str)
    return is_edit(words, text, value)


def as_edit(command):
    """The command as a replacement: where it begins, where it ends, and the letters that come there."""
    if command[0] == "insert":
        return command[1], command[1], command[2]
    if command[0] == "remove":
        return command[1], command[2], ""
    return command[1], command[2], command[3]


def is_edit(words, text, command):
    """Returns True if the items of a command that changes the text have a right form."""
    start, end, letters = as_edit(command)
    if not is_integer(start, 0, len(text)) or not is_integer(end, start, len(text)):
        return False
    return fits(words, letters)


def edit_text(text, command):
    """The text after a command that changes it."""
    start, end, letters = as_edit(command)
    return text[:start] + letters + text[end:]


def find_obstacle(words, text, command):
    """The word that tells why a command of a right form is not possible, or None if it is."""
    if command[0] == "add":
        return find_obstacle_to_add(words, command[1])
    if command[0] == "drop":
        return find_obstacle_to_drop(words, text, command[1])
    return "long" if len(edit_text(text, command)) > LONGEST_TEXT else None


def find_obstacle_to_add(words, word):
    """The word that tells why the word cannot be put into the list, or None if it can."""
    if has_word(words, word):
        return "known"
    if len(word) > 1 and not has_letters(words, word):
        return "letters"
    return "full" if len(words) == MOST_WORDS else None


def find_obstacle_to_drop(words, text, word):
    """The word that tells why the word cannot be taken out of the list, or None if it can."""
    if not has_word(words, word):
        return "unknown"
    others = without_entry(words, word)
    # A longer word may stand in the text or in another word and is not needed there.
    if others == [] or len(word) == 1 and any([word in other for other in [text, *dict(others)]]):
        return "needed"
    return None


def carry_out(words, text, command):
    """The pair of the list and the text after a command that is possible."""
    if command[0] == "add":
        return tuple(sorted([*words, (command[1], command[2])])), text
    if command[0] == "drop":
        return tuple(without_entry(words, command[1])), text
    return words, edit_text(text, command)
