"""Keys are gathered, one at a time, till they are a command."""

from fewkeys.bell import Bell
from fewkeys.command import CHANGE, FINDS, MARK_MOTIONS, OPERATORS, SEARCHES, Command
from fewkeys.rows import NEWLINE, TAB

QUOTE = 34
BACKSPACE = 8
RETURN = 13
ESCAPE = 27
ZERO = 48
NINE = 57
MOST_INNER = 4096

# What the next key is to be; the numbers are the places of the functions in STAGES.
AT_START = 0
AT_LETTER = 1
AT_VERB = 2
AT_MOTION = 3
AT_BYTE = 4
AT_MARK = 5
AT_PRINTED = 6
AT_SOUGHT = 7
AT_PUT = 8
DONE = 9

# Motions that are whole with their key:
PLAIN_MOTIONS = (
    104, 108, 106, 107,  # h l j k
    48, 94, 36, 71,  # 0 ^ $ G
    119, 98, 101, 87, 66, 69,  # w b e W B E
    59, 44, 110, 78,  # ; , n N
    37, 125, 123,  # to the bracket that goes with one; } {
)
# Verbs that take no motion, by what stands behind them:
PLAIN_VERBS = (112, 80, 74, 126, 117, 46)  # p P J ~ u .
BYTE_VERBS = (114,)  # r
MARK_VERBS = (109,)  # m
PUT_VERBS = (105, 97, 73, 65, 111, 79)  # i a I A o O

# Keys that stand for an operator and its motion.
SHORT_KEYS = {
    120: (100, 108),  # x: d l
    88: (100, 104),  # X: d h
    68: (100, 36),  # D: d $
    67: (99, 36),  # C: c $
    115: (99, 108),  # s: c l
    83: (99, 99),  # S: c c
    89: (121, 121),  # Y: y y
}


class Gathering:
    """The keys so far of a command that isn't whole yet."""

    def __init__(self):
        self.command = Command()
        self.stage = AT_START
        self.many = 0  # all keys so far
        self.inner = 0  # those of what's put in or looked for
        self.number = 0  # the count that is being read; 0 if none is


def go_on(gathering, stage):
    """The command, if it is done with, else None."""
    gathering.stage = stage
    return gathering.command if stage == DONE else None


def end_motion(gathering):
    return go_on(gathering, AT_PUT if gathering.command.verb == CHANGE else DONE)


def take_digit(gathering, key):
    """Whether the key belongs to a count; where it doesn't, the count is at its end."""
    if ZERO <= key <= NINE and (key > ZERO or gathering.number > 0):
        if gathering.number > 999:
            raise Bell()
        gathering.number = gathering.number * 10 + key - ZERO
        return True
    if gathering.number > 0:
        command = gathering.command
        command.count = command.times() * gathering.number
        gathering.number = 0
    return False


def behind_motion(key):
    """The stage behind a motion's key."""
    if key in PLAIN_MOTIONS:
        return DONE
    if key in FINDS:
        return AT_BYTE
    if key in MARK_MOTIONS:
        return AT_MARK
    if key in SEARCHES:
        return AT_SOUGHT
    raise Bell()


def behind_verb(key):
    """The stage behind the key of a verb that takes no motion; None if it is no such key."""
    if key in PLAIN_VERBS:
        return DONE
    if key in BYTE_VERBS:
        return AT_PRINTED
    if key in MARK_VERBS:
        return AT_MARK
    if key in PUT_VERBS:
        return AT_PUT
    return None


def take_start(gathering, key):
    if key == QUOTE:
        return go_on(gathering, AT_LETTER)
    gathering.stage = AT_VERB
    return take_verb(gathering, key)


def check_letter(key):
    if not 97 <= key <= 122:
        raise Bell()


def take_letter(gathering, key):
    check_letter(key)
    command = gathering.command
    command.letter = key
    return go_on(gathering, AT_VERB)


def take_verb(gathering, key):
    if take_digit(gathering, key):
        return None
    command = gathering.command
    if key in SHORT_KEYS:
        command.verb = SHORT_KEYS[key][0]
        command.motion = SHORT_KEYS[key][1]
        return end_motion(gathering)
    if key in OPERATORS:
        command.verb = key
        return go_on(gathering, AT_MOTION)
    stage = behind_verb(key)
    if stage is None:
        return take_motion_key(gathering, key)
    command.verb = key
    return go_on(gathering, stage)


def take_motion(gathering, key):
    if take_digit(gathering, key):
        return None
    command = gathering.command
    if key == command.verb:
        command.motion = key
        return end_motion(gathering)
    return take_motion_key(gathering, key)


def take_motion_key(gathering, key):
    stage = behind_motion(key)
    command = gathering.command
    command.motion = key
    if stage == DONE:
        return end_motion(gathering)
    return go_on(gathering, stage)


def take_byte(gathering, key):
    command = gathering.command
    command.given = [key]
    return end_motion(gathering)


def take_mark(gathering, key):
    check_letter(key)
    return take_byte(gathering, key)


def take_printed(gathering, key):
    if not 32 <= key <= 126:
        raise Bell()
    return take_byte(gathering, key)


def count_inner(gathering):
    """One key more of those that may be 4096 at most before the key that ends them."""
    gathering.inner += 1
    if gathering.inner > MOST_INNER:
        raise Bell()


def take_sought(gathering, key):
    if key == RETURN:
        # Behind c come other keys, and these are counted anew.
        gathering.inner = 0
        return end_motion(gathering)
    count_inner(gathering)
    gathering.command.given.append(key)
    return None


def take_put(gathering, key):
    if key == ESCAPE:
        return go_on(gathering, DONE)
    count_inner(gathering)
    put = gathering.command.put
    if key == BACKSPACE:
        if put:
            put.pop()
    elif key == RETURN:
        put.append(NEWLINE)
    elif key == TAB or 32 <= key <= 126:
        put.append(key)
    return None


STAGES = (
    take_start,
    take_letter,
    take_verb,
    take_motion,
    take_byte,
    take_mark,
    take_printed,
    take_sought,
    take_put,
)


def take(gathering, key):
    """The command, if this key makes it whole, else None; a Bell if the keys can't become one."""
    gathering.many += 1
    stage = STAGES[gathering.stage]
    return stage(gathering, key)
