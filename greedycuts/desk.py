"""The desk: a word list and a text for it, changed by commands that can be undone."""

from greedycuts.commands import carry_out, find_obstacle, is_command
from greedycuts.costs import find_least
from greedycuts.cuts import find_ends, sum_costs
from greedycuts.errors import BadValue, NotPossible, TooLarge
from greedycuts.lists import check_integer, check_text
from greedycuts.longest import find_match
from greedycuts.smallest import find_change

MOST_COMMANDS = 20


class Desk:
    """A desk with this list and this text. Its journal is empty at first."""

    def __init__(self, words, text):
        check_text(words, text)
        # The list and the text at the beginning, and after each command of the journal.
        self._states = [(words, text)]
        self._commands = []

    def do(self, command):
        """Does the command. Returns the change from the row before it to the row after it."""
        words, text = self._states[-1]
        if not is_command(words, text, command):
            raise BadValue("command")
        why = find_obstacle(words, text, command)
        if why is not None:
            raise NotPossible(why)
        if len(self._commands) == MOST_COMMANDS:
            raise TooLarge("commands")
        before = self.row()
        self._states.append(carry_out(words, text, command))
        self._commands.append(command)
        return find_change(before, self.row())

    def undo(self):
        """Undoes the last command. Returns it, or None if the journal is empty."""
        if not self._commands:
            return None
        self._states.pop()
        return self._commands.pop()

    def words(self):
        """Returns the word list."""
        return self._states[-1][0]

    def text(self):
        """Returns the text."""
        return self._states[-1][1]

    def row(self):
        """Returns the longest match of the text, a tuple of words."""
        return find_match(self.words(), self.text(), 0)

    def cost(self):
        """Returns the cost of the row."""
        return sum_costs(self.words(), self.row())

    def least(self):
        """Returns the least cost of the text."""
        return find_least(self.words(), self.text())

    def word_at(self, index):
        """Returns the index, in the row, of the word that contains the letter with this index of the text."""
        check_integer(index, 0, len(self.text()) - 1, "index")
        return len([end for end in find_ends(self.row(), 0) if end <= index])

    def journal(self):
        """Returns the tuple of the commands in the journal."""
        return tuple(self._commands)

    def records(self):
        """Returns the tuple of the records of the commands in the journal, pairs (command, row)."""
        return tuple([
            (command, find_match(words, text, 0))
            for command, (words, text) in zip(self._commands, self._states[1:])
        ])
