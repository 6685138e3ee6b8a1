"""A command, as the keys say it."""

DELETE = 100
CHANGE = 99
YANK = 121
SHIFT_RIGHT = 62
OPERATORS = (100, 99, 121, 60, 62)

FINDS = (102, 116, 70, 84)  # f t F T
MARK_MOTIONS = (39, 96)
SEARCHES = (47, 63)  # / ?


class Command:
    """What's done (verb) and how far (motion); either may be missing.

    x X D C s S Y are held as the operator and the motion that they stand for, and where an
    operator's key comes twice, that key is the motion too.
    """

    def __init__(self):
        self.letter = 0  # the register; 0 is the one without a name
        self.count = None
        self.verb = None
        self.motion = None
        self.given = []  # the bytes that stand behind the motion, r or m
        self.put = []  # what's put in, a newline for each new line

    def times(self):
        return 1 if self.count is None else self.count

    def operates(self):
        return self.verb in OPERATORS

    def with_count(self, count):
        """This command with another count, or as it is if there is none."""
        if count is None:
            return self
        other = Command()
        other.letter = self.letter
        other.count = count
        other.verb = self.verb
        other.motion = self.motion
        other.given = self.given
        other.put = self.put
        return other
