"""Operators: what they have of the text, and what they do with it."""

from fewkeys.bell import Bell
from fewkeys.command import CHANGE, DELETE, SHIFT_RIGHT, YANK
from fewkeys.goal import LINES, THROUGH
from fewkeys.motions import goal_of
from fewkeys.rows import SPACE, TAB, cut, end_of, front, indent, rows_of, spliced
from fewkeys.state import Outcome

MOST_SPACES = 8


class Stretch:
    """The bytes that an operator has, from one place up to another, which may be whole lines."""

    def __init__(self, whole, start, behind):
        self.whole = whole
        self.start = start
        self.behind = behind


def whole_lines(state, first, last):
    return Stretch(True, (first, 0), (last, len(state.rows[last])))


def stretch_to(state, goal):
    """The bytes between one's own place and a goal that isn't one of lines."""
    own = (state.line, state.column)
    there = (goal.line, goal.column)
    start = min(own, there)
    later = max(own, there)
    row = state.rows[later[0]]
    if goal.manner == THROUGH:
        return Stretch(False, start, (later[0], min(later[1] + 1, len(row))))
    if later[0] > start[0] and indent(row) >= later[1]:
        above = later[0] - 1
        return Stretch(False, start, (above, len(state.rows[above])))
    return Stretch(False, start, later)


def stretch_of(state, command):
    if command.motion == command.verb:
        last = state.line + command.times() - 1
        if last >= len(state.rows):
            raise Bell()
        return whole_lines(state, state.line, last)
    goal = goal_of(state, command)
    if goal.manner == LINES:
        return whole_lines(state, min(state.line, goal.line), max(state.line, goal.line))
    return stretch_to(state, goal)


def delete_lines(state, first, behind):
    if behind < len(state.rows):
        return Outcome(first, front(state.rows[behind]), first, behind, [])
    if first > 0:
        return Outcome(first - 1, front(state.rows[first - 1]), first, behind, [])
    return Outcome(0, 0, first, behind, [[]])


def delete(state, stretch):
    first = stretch.start[0]
    behind = stretch.behind[0] + 1
    if stretch.whole:
        return delete_lines(state, first, behind)
    rows = spliced(state.rows, stretch.start, stretch.behind, [[]])
    return Outcome(first, stretch.start[1], first, behind, rows)


def change(state, stretch, put):
    """The same for whole lines and bytes: cleared whole lines leave one line for what's put in."""
    rows = spliced(state.rows, stretch.start, stretch.behind, put)
    end = end_of(stretch.start, put)
    return Outcome(end[0], max(end[1] - 1, 0), stretch.start[0], stretch.behind[0] + 1, rows)


def yank(state, stretch):
    return Outcome(stretch.start[0], state.column if stretch.whole else stretch.start[1])


def shifted_right(row):
    return [TAB] + row if row else row


def shifted_left(row):
    if row and row[0] == TAB:
        return row[1:]
    many = 0
    while many < min(len(row), MOST_SPACES) and row[many] == SPACE:
        many += 1
    return row[many:]


def shift(state, stretch, verb):
    first = stretch.start[0]
    behind = stretch.behind[0] + 1
    rows = state.rows[first:behind]
    if verb == SHIFT_RIGHT:
        rows = [shifted_right(row) for row in rows]
    else:
        rows = [shifted_left(row) for row in rows]
    return Outcome(first, front(rows[0]), first, behind, rows)


def operate(state, command):
    """The outcome of a command with an operator."""
    stretch = stretch_of(state, command)
    if command.verb == DELETE:
        outcome = delete(state, stretch)
    elif command.verb == CHANGE:
        outcome = change(state, stretch, rows_of(command.put))
    elif command.verb == YANK:
        outcome = yank(state, stretch)
    else:
        return shift(state, stretch, command.verb)
    outcome.stored = (stretch.whole, cut(state.rows, stretch.start, stretch.behind))
    return outcome
