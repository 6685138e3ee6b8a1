"""Motions by words and by lines without bytes.

A word's edge is its beginning, on side -1, or its end, on side 1.
"""

from fewkeys.bell import Bell
from fewkeys.goal import THROUGH, TO, Goal
from fewkeys.rows import entry, exit_column, last_column

WIDE_KEYS = (87, 66, 69)  # W B E


def is_edge(row, signs, column, side):
    """Whether the byte on this side of a word's byte, if there's one, has another sign."""
    other = column + side
    return other < 0 or other == len(row) or signs[row[other]] != signs[row[column]]


def edges(row, signs, start, step, side, most):
    """The first so many columns, from start on by step, at which a word has its edge on this side."""
    found = []
    for column in range(start, exit_column(row, step), step):
        if signs[row[column]] > 0 and is_edge(row, signs, column, side):
            found.append(column)
            if len(found) == most:
                break
    return found


def edges_of_whole(row, signs, step, side, most):
    """The same for a row that one comes into; without bytes it is a beginning, but no end."""
    if not row:
        return [0] if side < 0 else []
    return edges(row, signs, entry(row, step), step, side, most)


def nth_edge(state, command, step, side):
    """The place of the nth edge from one on by step, one's own not counted; None if there are fewer."""
    signs = state.wide_signs if command.motion in WIDE_KEYS else state.signs
    line = state.line
    found = edges(state.row(), signs, state.column + step, step, side, command.times())
    missing = command.times() - len(found)
    while missing > 0 and 0 <= line + step < len(state.rows):
        line += step
        found = edges_of_whole(state.rows[line], signs, step, side, missing)
        missing -= len(found)
    return None if missing > 0 else (line, found[-1])


def last_place(state):
    line = len(state.rows) - 1
    return (line, last_column(state.rows[line]))


def goal_or_last(state, command, place, manner):
    """The goal at this place; if there's none, through the text's last byte."""
    if place is not None:
        return Goal(manner, place[0], place[1])
    last = last_place(state)
    if last == (state.line, state.column) and not command.operates():
        raise Bell()
    return Goal(THROUGH, last[0], last[1])


def word_ahead(state, command):
    return goal_or_last(state, command, nth_edge(state, command, 1, -1), TO)


def word_end(state, command):
    return goal_or_last(state, command, nth_edge(state, command, 1, 1), THROUGH)


def word_back(state, command):
    if state.line == 0 and state.column == 0:
        raise Bell()
    place = nth_edge(state, command, -1, -1)
    if place is None:
        return Goal(TO, 0, 0)
    return Goal(TO, place[0], place[1])


def nth_gap(state, times, step):
    """The nth line without bytes from one on by step; of such lines next to one another only the nearest counts."""
    line = state.line + step
    missing = times
    while 0 <= line < len(state.rows):
        if not state.rows[line] and state.rows[line - step]:
            missing -= 1
            if missing == 0:
                return line
        line += step
    return None


def gap_below(state, command):
    line = nth_gap(state, command.times(), 1)
    if line is None:
        last = last_place(state)
        return Goal(THROUGH, last[0], last[1])
    return Goal(TO, line, 0)


def gap_above(state, command):
    line = nth_gap(state, command.times(), -1)
    return Goal(TO, 0 if line is None else line, 0)


WORD_MOTIONS = {
    119: word_ahead,  # w
    87: word_ahead,  # W
    98: word_back,  # b
    66: word_back,  # B
    101: word_end,  # e
    69: word_end,  # E
    125: gap_below,  # }
    123: gap_above,  # {
}
