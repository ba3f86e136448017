"""Journals of desks: doing their commands once more, and judging their records.

Functions that the interface does not list serve the rest of the package. They
do not check words and text.
"""

from greedycuts.commands import carry_out, find_obstacle, is_command
from greedycuts.cuts import gives_text
from greedycuts.desk import MOST_COMMANDS, Desk
from greedycuts.errors import BadValue
from greedycuts.lists import check_text
from greedycuts.rows import find_conflict


def is_right_record(words, text, value):
    """Returns True if the value is a record of a command that is possible, with the row after it."""
    if not isinstance(value, tuple) or len(value) != 2:
        return False
    command, row = value
    if not is_command(words, text, command) or find_obstacle(words, text, command) is not None:
        return False
    words_after, text_after = carry_out(words, text, command)
    return gives_text(words_after, text_after, row) and find_conflict(words_after, row) is None


def replayed(words, text, journal):
    """Returns a desk with this list and this text on which the commands of the journal are done."""
    desk = Desk(words, text)
    if not isinstance(journal, tuple) or len(journal) > MOST_COMMANDS:
        raise BadValue("journal")
    for command in journal:
        desk.do(command)
    return desk


def are_right(words, text, records):
    """Returns True if the records are right for the list and the text, otherwise False."""
    check_text(words, text)
    if not isinstance(records, tuple):
        return False
    for value in records:
        if not is_right_record(words, text, value):
            return False
        words, text = carry_out(words, text, value[0])
    return True
