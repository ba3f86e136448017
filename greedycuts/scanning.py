"""The tokens of texts of word lists and of cuts."""

from greedycuts.errors import BadValue, TextError
from greedycuts.lists import LETTERS, LONGEST_WORD

LONGEST_LINE = 200
LONGEST_NUMBER = 6
DIGITS = "0123456789"
SIGNS = ":|"


def check_line(text):
    """Raises BadValue if the argument is no string of at most 200 characters without newlines."""
    if not isinstance(text, str) or len(text) > LONGEST_LINE or "\n" in text:
        raise BadValue("text")


def find_kind(character):
    """The kind of a token with this character, or None if no token has it."""
    if character in LETTERS:
        return "word"
    if character in DIGITS:
        return "number"
    return "sign" if character in SIGNS else None


def find_end(text, index):
    """The index behind the token that begins at the index."""
    kind = find_kind(text[index])
    end = index + 1
    # Signs directly side by side are tokens of their own.
    while kind != "sign" and end < len(text) and find_kind(text[end]) == kind:
        end += 1
    return end


def make_token(text, index):
    """The token that begins at the index; TextError if it has a problem."""
    kind = find_kind(text[index])
    if kind is None:
        raise TextError(index + 1, "no token begins here")
    characters = text[index:find_end(text, index)]
    if kind == "word" and len(characters) > LONGEST_WORD:
        raise TextError(index + 1, "a word has at most 4 letters")
    if kind == "number" and len(characters) > LONGEST_NUMBER:
        raise TextError(index + 1, "a number has at most 6 digits")
    return kind, characters, index + 1


def scan(text):
    """Returns the list of the tokens of the text, tuples (kind, characters, column)."""
    check_line(text)
    tokens = []
    index = 0
    while index < len(text):
        if text[index] == " ":
            index += 1
        else:
            tokens.append(make_token(text, index))
            index += len(tokens[-1][1])
    return [*tokens, ("end", "", len(text) + 1)]
