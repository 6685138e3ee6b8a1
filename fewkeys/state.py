"""All that an editor holds, and how its text is changed."""

from fewkeys.bell import Bell
from fewkeys.gathering import Gathering
from fewkeys.rows import last_column, sign, size_of

MOST_BYTES = 65536


class Outcome:
    """What a command comes to: a place; rows for lines, or None if the text stays; what a register gets, or None."""

    def __init__(self, line, column, first=0, behind=0, rows=None):
        self.line = line
        self.column = column  # it may lie behind the line's last byte, which is meant then
        self.first = first  # the rows take the place of the lines from first up to behind
        self.behind = behind
        self.rows = rows
        self.stored = None  # a tuple: whether these are whole lines, the rows


class State:
    """One editor: at its beginning it holds a text and nothing else."""

    def __init__(self, rows):
        self.rows = rows
        self.size = size_of(rows)
        self.line = 0
        self.column = 0
        self.stored = {}  # the registers, by letter
        self.marks = {}  # places, by letter
        self.found = None  # the last of f t F T: the key, the byte
        self.sought = None  # the last of / ?: the key, the bytes
        self.before = None  # the outcome that takes the last change back
        self.again = None  # the command of the last change
        self.gathering = Gathering()
        self.signs = [sign(byte, False) for byte in range(256)]
        self.wide_signs = [sign(byte, True) for byte in range(256)]

    def row(self):
        return self.rows[self.line]

    def check_room(self, many):
        """A Bell if the text can't have so many bytes more."""
        if self.size + many > MOST_BYTES:
            raise Bell()

    def go(self, line, column):
        """Be there, or on the line's last byte if the column lies behind it."""
        self.line = line
        self.column = min(column, last_column(self.rows[line]))

    def lay(self, outcome):
        """Put the outcome's rows into the text, and keep what takes that back."""
        old = self.rows[outcome.first:outcome.behind]
        many = size_of(outcome.rows) - size_of(old)
        self.check_room(many)
        behind = outcome.first + len(outcome.rows)
        self.before = Outcome(self.line, self.column, outcome.first, behind, old)
        self.rows[outcome.first:outcome.behind] = outcome.rows
        self.size += many
        self.go(outcome.line, outcome.column)
