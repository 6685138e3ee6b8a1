"""Where a motion goes, and in which of three manners."""

TO = 0
THROUGH = 1
LINES = 2


class Goal:
    def __init__(self, manner, line, column):
        self.manner = manner
        self.line = line
        self.column = column
