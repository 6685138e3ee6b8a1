"""Motions: each is a function of the editor's state and the command, and gives a Goal or a Bell."""

from fewkeys.bell import Bell
from fewkeys.finding import FINDING_MOTIONS
from fewkeys.goal import LINES, THROUGH, TO, Goal
from fewkeys.rows import front, last_column
from fewkeys.words import WORD_MOTIONS


def left(state, command):
    if state.column == 0:
        raise Bell()
    return Goal(TO, state.line, max(state.column - command.times(), 0))


def right(state, command):
    end = len(state.row())
    if not command.operates():
        end -= 1
    if state.column >= end:
        raise Bell()
    return Goal(TO, state.line, min(state.column + command.times(), end))


def line_start(state, command):
    return Goal(TO, state.line, 0)


def line_front(state, command):
    return Goal(TO, state.line, front(state.row()))


def check_line(state, line):
    """A Bell if there's no such line."""
    if not 0 <= line < len(state.rows):
        raise Bell()


def line_end(state, command):
    line = state.line + command.times() - 1
    check_line(state, line)
    return Goal(THROUGH, line, last_column(state.rows[line]))


def in_own_column(state, line):
    check_line(state, line)
    return Goal(LINES, line, min(state.column, last_column(state.rows[line])))


def down(state, command):
    return in_own_column(state, state.line + command.times())


def up(state, command):
    return in_own_column(state, state.line - command.times())


def at_front(state, line):
    check_line(state, line)
    return Goal(LINES, line, front(state.rows[line]))


def numbered_line(state, command):
    if command.count is None:
        return at_front(state, len(state.rows) - 1)
    return at_front(state, command.count - 1)


def marked_place(state, command):
    """The place of the command's mark, whether or not there's still such a line."""
    place = state.marks.get(command.given[0])
    if place is None:
        raise Bell()
    return place


def mark_line(state, command):
    return at_front(state, marked_place(state, command)[0])


def mark_place(state, command):
    place = marked_place(state, command)
    check_line(state, place[0])
    return Goal(TO, place[0], min(place[1], last_column(state.rows[place[0]])))


OTHER_MOTIONS = {
    104: left,  # h
    108: right,  # l
    48: line_start,  # 0
    94: line_front,  # ^
    36: line_end,  # $
    106: down,  # j
    107: up,  # k
    71: numbered_line,  # G
    39: mark_line,  # a single quote
    96: mark_place,  # a grave accent
}


def goal_of(state, command):
    """The goal of the command's motion."""
    key = command.motion
    if key in WORD_MOTIONS:
        motion = WORD_MOTIONS[key]
    elif key in FINDING_MOTIONS:
        motion = FINDING_MOTIONS[key]
    else:
        motion = OTHER_MOTIONS[key]
    return motion(state, command)
