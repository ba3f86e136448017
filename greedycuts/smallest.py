"""The smallest change from one row to another one."""

from greedycuts.errors import BadValue

LONGEST_ROW = 100


def is_string_row(value):
    """Returns True if the value is a tuple of at most 100 strings."""
    if not isinstance(value, tuple) or len(value) > LONGEST_ROW:
        return False
    return all([isinstance(part, str) for part in value])


def count_alike(one, other):
    """How many strings both rows have in common at the beginning."""
    for index, (part, fellow) in enumerate(zip(one, other)):
        if part != fellow:
            return index
    return min(len(one), len(other))


def find_change(old, new):
    """The change from the old row to the new one."""
    start = count_alike(old, new)
    # What is counted at the beginning is not counted at the end once more.
    end = count_alike(old[start:][::-1], new[start:][::-1])
    return start, len(old) - start - end, new[start:len(new) - end]


def change(old, new):
    """Returns the change from the old row to the new one, a tuple (start, removed, inserted)."""
    if not is_string_row(old):
        raise BadValue("old")
    if not is_string_row(new):
        raise BadValue("new")
    return find_change(old, new)
