"""Word lists for the tests, slow and plain ways to the same results, and checks of errors.

Nothing here is taken from the package but the errors: the results that the
tests compare with come from listing all cuts.
"""

import re
from itertools import product

from greedycuts.errors import BadValue, CutError, TextError

DOC = (("a", 1), ("ab", 1), ("b", 1), ("bcd", 1), ("c", 1), ("d", 1))
SMALL = (("a", 1), ("ab", 1), ("b", 2))
ONE = (("z", 9),)
AAA = (("a", 1), ("aa", 1), ("aaa", 1))
ALL_AS = (("a", 1), ("aa", 9), ("aaa", 2), ("aaaa", 5))
DEAR = (("a", 1), ("aa", 9))
EIGHT = (("a", 3), ("ab", 4), ("abab", 9), ("b", 2), ("ba", 1), ("baa", 7), ("bb", 5), ("bbba", 6))
LONG = (("a", 1), ("abb", 1), ("abba", 3), ("b", 2), ("bba", 2), ("bbab", 1))
MIXED = (("a", 2), ("aab", 1), ("b", 1), ("ba", 2), ("bc", 3), ("c", 1), ("ca", 1), ("cab", 3))
ENDS = (("a", 1), ("abc", 1), ("b", 1), ("c", 1), ("cd", 1), ("d", 1))
LETTERS_ONLY = (("a", 1), ("b", 2), ("c", 3), ("d", 4), ("e", 5), ("f", 6), ("g", 7), ("h", 8))
LISTS = (DOC, SMALL, ONE, AAA, ALL_AS, DEAR, EIGHT, LONG, MIXED, ENDS)

# What is no word list, for reasons of all kinds.
BAD_LISTS = (
    None, True, False, 0, 1, "", "a", [], (), [("a", 1)], ("a", 1), (("a",),), (("a", 1, 1),),
    (["a", 1],), ("a1",), (None,), (("a", 0),), (("a", 10),), (("a", -1),), (("a", True),),
    (("a", False),), (("a", "1"),), (("a", None),), ((1, 1),), ((("a",), 1),), ((["a"], 1),),
    ((None, 1),), ((True, 1),), (("", 1),), (("", 1), ("a", 1)), (("A", 1),), (("1", 1),), ((" ", 1),), (("\u00e9", 1),),
    (("a", 1), ("a", 1)), (("a", 1), ("a", 2)), (("b", 1), ("a", 1)), (("aa", 1), ("a", 1)),
    (("a", 1), ("ab", 1)), (("ab", 1), ("b", 1)), (("ab", 1),),
    (("a", 1), ("aaaaa", 1)), (("a", 1), ("aa", 1), ("aaa", 1), ("aaaa", 1), ("aaaaa", 1)),
    (("a", 1), ("b", 1), ("c", 1), ("d", 1), ("e", 1), ("f", 1), ("g", 1), ("h", 1), ("i", 1)),
    (("a", 1), ("b", 1), None), (("a", 1), ["b", 1]),
)
# What is no text of a list whose letters are among a to h.
BAD_TEXTS = (
    None, True, 0, 1, [], (), ("a",), ["a"], "z", "A", "a ", " ", "a\n", "1", "aza", "\u00e4", "a" * 31, "a" * 1000,
)
# What is no integer from 0 to 30.
BAD_NUMBERS = (None, True, False, -1, "0", "", (), (0,), [0], 31, 1000, 10 ** 40, -(10 ** 40))


def texts_of(words, most):
    """All texts of the word list with at most so many letters, in order by length."""
    letters = [word for word, _ in words if len(word) == 1]
    return ["".join(row) for many in range(most + 1) for row in product(letters, repeat=many)]


def all_cuts(words, text):
    """All cuts of the text, in their order, listed one after another."""
    if text == "":
        return [()]
    starting = sorted((word for word, _ in words if text[:len(word)] == word), key=len)
    return [(word, *cut) for word in starting for cut in all_cuts(words, text[len(word):])]


def cost(words, row):
    """The sum of the costs."""
    return sum(dict(words)[word] for word in row)


def boundaries(cut):
    """The boundaries of the cut."""
    return tuple(len("".join(cut[:k])) for k in range(1, len(cut)))


def conflict(words, row):
    """The least index of a word in conflict, by the definition of point 36, or None."""
    for index, word in enumerate(row):
        rest = "".join(row[index:])
        if any(len(other) > len(word) and rest.startswith(other) for other, _ in words):
            return index
    return None


def the_longest_match(words, text):
    """The only one of all cuts in which each word is the longest one that begins the rest."""
    found, = [cut for cut in all_cuts(words, text) if conflict(words, cut) is None]
    return found


def greedy(words, text):
    """The longest match of a text of any length."""
    row = []
    while text:
        row.append(max((word for word, _ in words if text.startswith(word)), key=len))
        text = text[len(row[-1]):]
    return tuple(row)


def least(words, text):
    """The least cost of a text of any length, from that of its beginnings."""
    costs = [0]
    for end in range(1, len(text) + 1):
        ending = [(word, price) for word, price in words if text[:end].endswith(word)]
        costs.append(min(costs[end - len(word)] + price for word, price in ending))
    return costs[-1]


def read_slowly(words, held, letters):
    """What the reader gives out on the letters and holds then, letter by letter, as point 55 tells it."""
    given = []
    for letter in letters:
        held += letter
        while held and not any(len(word) > len(held) and word.startswith(held) for word, _ in words):
            given.append(max((word for word, _ in words if held.startswith(word)), key=len))
            held = held[len(given[-1]):]
    return given, held


def slow_steps(words, held, tail, letter):
    """The steps from a pair with the letter, as point 86 tells them, in ascending order."""
    given, left = read_slowly(words, held, letter)
    longer = tail + letter
    ways = [("", price) for word, price in words if word == longer]
    if any(len(word) > len(longer) and word.startswith(longer) for word, _ in words):
        ways.append((longer, 0))
    return sorted((left, ahead, cost(words, given), loss) for ahead, loss in ways)


def slow_pairs(words):
    """All pairs to which steps lead from the first one, a set."""
    found, new = set(), {("", "")}
    while new:
        found |= new
        letters = texts_of(words, 1)[1:]
        led = {step[:2] for held, tail in new for letter in letters for step in slow_steps(words, held, tail, letter)}
        new = led - found
    return found


def slow_right(words, a, b, c, value):
    """Whether potentials that have the right form are right for the bound, as point 88 tells it."""
    numbers = {(held, tail): number for held, tail, number in value}
    if numbers.get(("", ""), -1) < 0:
        return False
    for (held, tail), number in numbers.items():
        if tail == "" and number + b * cost(words, greedy(words, held)) > c:
            return False
        for letter in texts_of(words, 1)[1:]:
            for left, ahead, gain, loss in slow_steps(words, held, tail, letter):
                if (left, ahead) not in numbers or numbers[left, ahead] < number + b * gain - a * loss:
                    return False
    return True


def rows_of(words, most):
    """All rows of at most so many words."""
    spelled = [word for word, _ in words]
    return [row for many in range(most + 1) for row in product(spelled, repeat=many)]


def by_length(texts):
    """The texts, in order by length."""
    return sorted(texts, key=lambda text: (len(text), text))


def turned(words):
    """The reversed word list."""
    return tuple(sorted((word[::-1], price) for word, price in words))


def lists_over(letters, longer, prices):
    """Word lists of the letters with up to three of the longer words, their costs in turn."""
    found = []
    for chosen in product((False, True), repeat=len(longer)):
        some = [word for word, take in zip(longer, chosen) if take]
        if len(some) <= 3:
            spelled = sorted([*letters, *some])
            found.append(tuple((word, prices[k % len(prices)]) for k, word in enumerate(spelled)))
    return found


TWO_LETTERS = lists_over("ab", ("aa", "ab", "ba", "aab", "abb", "bab", "abba"), (2, 1, 3))
THREE_LETTERS = lists_over("abc", ("ab", "bc", "cab", "bca", "abca", "cc"), (1, 2))


def common(first, second):
    """The common letters, in alphabetical order."""
    return "".join(sorted({word for word, _ in first if len(word) == 1} & {word for word, _ in second}))


def common_texts(first, second, most):
    """All common texts of at most so many letters, in order by length."""
    return ["".join(row) for many in range(most + 1) for row in product(common(first, second), repeat=many)]


def slow_difference(first, second, text):
    """What the longest match of the text costs more by the first list than by the second one."""
    return cost(first, greedy(first, text)) - cost(second, greedy(second, text))


def both_after(first, second, pair, letters):
    """What both readers hold after the letters, and what the letters gain, letter by letter."""
    given, one = read_slowly(first, pair[0], letters)
    given_by_other, other = read_slowly(second, pair[1], letters)
    return (one, other), cost(first, given) - cost(second, given_by_other)


def slow_befores(first, second):
    """For each pair that common texts lead to, the first text that leads to it, by length and alphabet."""
    befores, texts = {}, [""]
    while texts:
        longer = []
        for text in by_length(texts):
            pair, _ = both_after(first, second, ("", ""), text)
            if pair not in befores:
                befores[pair] = text
                longer += [text + letter for letter in common(first, second)]
        texts = longer
    return befores


def slow_growing(first, second):
    """The round that point 104 tells, from all walks of so many letters from all pairs, or None up to 12 letters."""
    befores = slow_befores(first, second)
    walks = {(start, ""): (start, 0) for start in befores}
    for _ in range(12):
        longer = {}
        for (start, cycle), (pair, gained) in walks.items():
            for letter in common(first, second):
                ahead, gain = both_after(first, second, pair, letter)
                longer[start, cycle + letter] = (ahead, gained + gain)
        walks = longer
        found = [
            (-gained, cycle, len(befores[start]), befores[start])
            for (start, cycle), (pair, gained) in walks.items() if pair == start and gained > 0
        ]
        if found:
            _, cycle, _, before = min(found)
            return before, cycle
    return None


# Two lists whose differences have a greatest one, with the number of letters of its first text.
WITH_GREATEST = (
    (0, (("a", 3),), (("a", 3), ("aa", 8))),
    (0, (("a", 2), ("b", 2), ("bc", 9), ("c", 1)), (("a", 9), ("b", 9), ("c", 8))),
    (1, (("a", 9), ("aa", 8)), (("a", 7),)),
    (1, (("a", 1), ("b", 6), ("bb", 1), ("c", 1)), (("a", 4), ("b", 5), ("c", 8))),
    (2, (("a", 6), ("b", 6), ("bc", 6), ("c", 2)), (("a", 9), ("b", 7), ("c", 3), ("cb", 6))),
    (3, (("a", 1), ("aab", 5), ("b", 5), ("c", 7)), (("a", 1), ("aba", 6), ("b", 6), ("c", 8))),
    (4, (("a", 1), ("abb", 1), ("b", 1)), (("a", 3), ("b", 1), ("baab", 3))),
    (5, (("a", 2), ("abb", 6), ("b", 1)), (("a", 5), ("b", 1), ("baa", 6), ("bbaa", 9))),
    (5, (("a", 5), ("aa", 4)), (("a", 1), ("aaa", 6))),
    (6, (("a", 1), ("aaba", 5), ("b", 1), ("baa", 1)), (("a", 4), ("aab", 1), ("b", 6))),
    (7, (("a", 2), ("ab", 1), ("b", 1), ("bba", 4), ("bbab", 1)),
     (("a", 5), ("b", 1), ("bab", 3), ("babb", 2), ("bba", 3))),
    (8, (("a", 2), ("aab", 2), ("aba", 9), ("b", 1)), (("a", 8), ("abba", 9), ("b", 5), ("baaa", 6))),
    (10, (("a", 1), ("ab", 1), ("b", 9), ("bb", 9), ("bba", 4), ("bbbb", 5)),
     (("a", 6), ("b", 9), ("ba", 7), ("baba", 6), ("bb", 8))),
    (11, (("a", 7), ("aaaa", 8)), (("a", 1), ("aaa", 6))),
    # Here two pairs have it with equally many letters.
    (2, (("a", 3), ("aaa", 4), ("ab", 1), ("b", 3), ("baa", 3), ("bb", 2)),
     (("a", 2), ("ab", 4), ("b", 2), ("bbab", 4))),
    (4, (("a", 2), ("aaaa", 1), ("aab", 1), ("b", 1), ("bba", 2)), (("a", 4), ("abaa", 4), ("b", 2), ("baaa", 4))),
)
TWO_LISTS = (
    (DEAR, (("a", 1),)), ((("a", 1),), DEAR), (DEAR, DEAR), (DOC, ENDS), (ENDS, DOC), (DOC, DOC[:1] + DOC[2:]),
    (DOC[:1] + DOC[2:], DOC), (SMALL, ONE), (ONE, SMALL), (ALL_AS, AAA), (AAA, ALL_AS), (EIGHT, LONG), (LONG, EIGHT),
    (MIXED, DOC), (DOC, MIXED), (SMALL, DOC), (LETTERS_ONLY, MIXED), (MIXED, LETTERS_ONLY), (EIGHT, EIGHT),
    (LETTERS_ONLY, (("f", 3), ("fz", 1), ("z", 2))),
    # The first round that grows has 4 letters behind 9, and 12 letters.
    ((("a", 1), ("aaa", 6), ("aba", 4), ("b", 1), ("babb", 4), ("bbab", 1)),
     (("a", 7), ("abba", 8), ("b", 1), ("baab", 3), ("babb", 3), ("bb", 3), ("bbba", 1), ("bbbb", 8))),
    ((("a", 6), ("ab", 3), ("abbb", 1), ("b", 1), ("baa", 8), ("babb", 7), ("bbb", 1)),
     (("a", 9), ("b", 1), ("bbbb", 1))),
    *[(one, other) for _, one, other in WITH_GREATEST], *[(other, one) for _, one, other in WITH_GREATEST],
    *zip(TWO_LETTERS, TWO_LETTERS[7:]), *zip(THREE_LETTERS[::2], TWO_LETTERS), *zip(THREE_LETTERS, THREE_LETTERS[5:]),
)


def slow_change(old, new):
    """The change from one row to another one, by the words of point 119."""
    start = max(many for many in range(len(old) + 1) if old[:many] == new[:many])
    behind, behind_new = old[start:], new[start:]
    alike = max(
        many for many in range(min(len(behind), len(behind_new)) + 1)
        if behind[len(behind) - many:] == behind_new[len(behind_new) - many:]
    )
    return start, len(behind) - alike, behind_new[:len(behind_new) - alike]


def right_form(words, text, command):
    """Whether the value is a command of a right form, by the words of points 121 and 122."""
    def is_index(value, low=0):
        return value.__class__ is int and low <= value <= len(text)

    def is_letters(value):
        return isinstance(value, str) and len(value) <= 30 and set(value) <= {word for word, _ in words}

    if not isinstance(command, tuple):
        return False
    match command:
        case ("insert", index, letters):
            return is_index(index) and is_letters(letters)
        case ("remove", start, end):
            return is_index(start) and is_index(end, start)
        case ("replace", start, end, letters):
            return is_index(start) and is_index(end, start) and is_letters(letters)
        case ("add", word, price):
            lower = isinstance(word, str) and 1 <= len(word) <= 4 and all("a" <= letter <= "z" for letter in word)
            return lower and price.__class__ is int and 1 <= price <= 9
        case ("drop", word):
            return isinstance(word, str)
    return False


def slow_obstacle(words, text, command):
    """The word of point 122 for a command of a right form, or None if it is possible."""
    spelled = [word for word, _ in words]
    match command:
        case ("insert", _, letters):
            return "long" if len(text) + len(letters) > 30 else None
        case ("replace", start, end, letters):
            return "long" if len(text) - (end - start) + len(letters) > 30 else None
        case ("add", word, _):
            reasons = (
                ("known", word in spelled),
                ("letters", len(word) > 1 and not set(word) <= set(spelled)),
                ("full", len(spelled) == 8),
            )
        case ("drop", word):
            others = [other for other in spelled if other != word]
            reasons = (
                ("unknown", word not in spelled),
                ("needed", not others or len(word) == 1 and (word in text or any(word in other for other in others))),
            )
        case _:
            reasons = ()
    return next((why for why, applies in reasons if applies), None)


def slow_after(words, text, command):
    """The list and the text after a command that is possible."""
    letters = list(text)
    entries = dict(words)
    match command:
        case ("insert", index, some):
            letters[index:index] = some
        case ("remove", start, end):
            del letters[start:end]
        case ("replace", start, end, some):
            letters[start:end] = some
        case ("add", word, price):
            entries[word] = price
        case ("drop", word):
            del entries[word]
    return tuple(sorted(entries.items())), "".join(letters)


def commands_for(words, text):
    """Commands of right forms of all kinds for the list and the text, possible ones and others."""
    some = texts_of(words, 2)
    spans = [(start, end) for end in range(len(text) + 1) for start in range(end + 1)]
    found = [("insert", index, letters) for index in range(len(text) + 1) for letters in some]
    found += [("remove", start, end) for start, end in spans]
    found += [("replace", start, end, letters) for start, end in spans for letters in some]
    spelled = [word for word, _ in words]
    others = ["a", "b", "c", "x", "ab", "ba", "ax", "bab", "abba", "xyz"]
    found += [("add", word, price) for word in [*spelled, *others] for price in (1, 9)]
    return found + [("drop", word) for word in [*spelled, *others, "", "A", "abcde"]]


# What is no text of a word list or of a cut.
BAD_LINES = (
    None, True, False, 0, 1, 1.5, b"", b"a", [], ["a"], (), ("a",), {}, {"a"}, "\n", "a\n", "\na", "a\nb", " \n ",
    "a" * 201, " " * 201, "A" * 1000, "\n" * 200,
)


def plain_scan(text):
    """The tokens of a text, or the problem, a pair of a column and its words."""
    tokens = []
    for found in re.finditer("[a-z]+|[0-9]+|[:|]| +|.", text, re.DOTALL):
        part, column = found.group(), found.start() + 1
        if part[0] in "abcdefghijklmnopqrstuvwxyz":
            if len(part) > 4:
                return column, "a word has at most 4 letters"
            tokens.append(("word", part, column))
        elif part[0] in "0123456789":
            if len(part) > 6:
                return column, "a number has at most 6 digits"
            tokens.append(("number", part, column))
        elif part in (":", "|"):
            tokens.append(("sign", part, column))
        elif part[0] != " ":
            return column, "no token begins here"
    return [*tokens, ("end", "", len(text) + 1)]


def told_problem(case, function, *arguments):
    """The column and the words of the TextError that the call raises."""
    with case.assertRaises(CutError) as caught:
        function(*arguments)
    case.assertIs(caught.exception.__class__, TextError, (function.__name__, arguments))
    return caught.exception.column, caught.exception.words


def told_name(case, function, arguments):
    """The name that the BadValue tells which the call raises."""
    with case.assertRaises(CutError) as caught:
        function(*arguments)
    error = caught.exception
    case.assertIs(error.__class__, BadValue, (function.__name__, arguments))
    return error.name


def check_errors(case, function, good, wrong):
    """Checks each wrong value of each argument, and that of two wrong ones the first is told.

    good is a tuple of arguments for which the function returns; wrong is a
    tuple of tuples (position, name, values), in the order of the positions.
    """
    function(*good)
    for number, (position, name, values) in enumerate(wrong):
        for value in values:
            arguments = list(good)
            arguments[position] = value
            with case.subTest(function=function.__name__, name=name, value=value):
                case.assertEqual(told_name(case, function, arguments), name)
                for later, _, others in wrong[number + 1:]:
                    for other in (others[0], others[-1]):
                        two = list(arguments)
                        two[later] = other
                        case.assertEqual(told_name(case, function, two), name)


def check_pure(case, function, *arguments):
    """Checks point 2 for one call: arguments stay, equal calls give equal results."""
    before = repr(arguments)
    first = function(*arguments)
    kept = repr(first)
    if isinstance(first, list):
        first.append("changed")
        first.reverse()
    second = function(*arguments)
    case.assertEqual(repr(second), kept, (function.__name__, arguments))
    if isinstance(first, list):
        case.assertIsNot(first, second)
    case.assertEqual(repr(arguments), before)


def check_kind(case, kind, value):
    """Checks that the value is exactly of this kind: True is no integer."""
    case.assertIs(value.__class__, kind, value)
