"""Reading texts of word lists and of cuts.

Functions that the interface does not list serve the rest of the package. They
do not check words.
"""

from greedycuts.errors import BadValue, TextError
from greedycuts.lists import DEAREST, LONGEST_TEXT, MOST_WORDS, check_list, has_word
from greedycuts.scanning import check_line, scan

KINDS = ("words", "cut")
# What can come behind a token, and at the beginning, in texts of each kind.
IN_WORDS = {
    "the beginning": ("a word", "the end"),
    "a word": ("a word", '":"', "the end"),
    '":"': ("a number",),
    "a number": ("a word", "the end"),
}
IN_CUT = {
    "the beginning": ("a word", "the end"),
    "a word": ('"|"', "the end"),
    '"|"': ("a word",),
}


def name_token(token):
    """What the token is called in the words of problems."""
    kind, characters, _ = token
    if kind == "sign":
        return f'"{characters}"'
    return "the end" if kind == "end" else f"a {kind}"


def find_following(kind, last):
    """What can come behind what is called so in a text of this kind, a tuple."""
    return IN_WORDS[last] if kind == "words" else IN_CUT[last]


def join_choices(choices):
    """The choices as they are listed in the words of problems."""
    if len(choices) == 1:
        return choices[0]
    return ", ".join(choices[:-1]) + " or " + choices[-1]


def follow_grammar(tokens, kind):
    """What can come behind the tokens, a tuple; TextError at the first one that cannot come at its place."""
    following = find_following(kind, "the beginning")
    for token in tokens:
        name = name_token(token)
        if name not in following:
            raise TextError(token[2], "expected " + join_choices(following))
        if name != "the end":
            following = find_following(kind, name)
    return following


def read_tokens(text, kind):
    """The tokens of the text, a list; TextError if they do not follow the grammar of this kind."""
    tokens = scan(text)
    follow_grammar(tokens, kind)
    return tokens


def read_cost(token):
    """The cost that the number tells."""
    _, characters, column = token
    cost = int(characters)
    if not 1 <= cost <= DEAREST:
        raise TextError(column, "a cost is from 1 to 9")
    return cost


def check_new_word(costs, token):
    """Raises TextError if the word cannot come behind those that have costs already."""
    _, word, column = token
    if len(costs) == MOST_WORDS:
        raise TextError(column, "there are at most 8 words")
    if word in costs:
        raise TextError(column, "this word stands already")


def read_entries(tokens):
    """The words with their costs, a dict."""
    costs = {}
    word = ""
    for token in tokens:
        if token[0] == "word":
            check_new_word(costs, token)
            word = token[1]
            costs[word] = 1
        elif token[0] == "number":
            costs[word] = read_cost(token)
    return costs


def check_letters(costs, tokens):
    """Raises TextError at the first word with a letter that is no word."""
    for kind, characters, column in tokens:
        if kind == "word" and not all([letter in costs for letter in characters]):
            raise TextError(column, "a letter of this word is no word")


def next_tokens(text, kind):
    """Returns the list of what can come behind the tokens of the text, if it begins a text of this kind."""
    check_line(text)
    if kind not in KINDS:
        raise BadValue("kind")
    return list(follow_grammar(scan(text)[:-1], kind))


def read_words(text):
    """Returns the word list that the text tells."""
    tokens = read_tokens(text, "words")
    costs = read_entries(tokens)
    if not costs:
        raise TextError(tokens[-1][2], "there is no word")
    check_letters(costs, tokens)
    return tuple(sorted(costs.items()))


def read_cut(words, text):
    """Returns the cut that the text tells, a tuple of words."""
    check_list(words)
    cut = []
    letters = 0
    for kind, characters, column in read_tokens(text, "cut"):
        if kind == "word":
            if not has_word(words, characters):
                raise TextError(column, "this is no word")
            letters += len(characters)
            if letters > LONGEST_TEXT:
                raise TextError(column, "a text has at most 30 letters")
            cut.append(characters)
    return tuple(cut)
