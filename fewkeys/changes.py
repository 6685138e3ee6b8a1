"""Verbs that change the text and take no motion."""

from fewkeys.bell import Bell
from fewkeys.rows import (
    SPACE, end_of, front, indent, is_blank, is_capital, is_small, repeated, rows_of, size_of, spliced,
)
from fewkeys.state import Outcome

PUT_BEHIND = 112
INSERT = 105
APPEND = 97
INSERT_AT_FRONT = 73
OPEN_BELOW = 111
CLOSING = 41
TO_CAPITAL = 32  # how far a small letter lies above its capital


def behind_byte(state):
    """The column behind one's byte; in a line without bytes that is column 0."""
    return min(state.column + 1, len(state.row()))


def put_lines(state, command, rows):
    state.check_room(command.times() * size_of(rows))
    line = state.line
    if command.verb == PUT_BEHIND:
        line += 1
    return Outcome(line, front(rows[0]), line, line, rows * command.times())


def put_bytes(state, command, rows):
    # A newline fewer than size_of counts stands in them.
    state.check_room(command.times() * (size_of(rows) - 1))
    column = behind_byte(state) if command.verb == PUT_BEHIND else state.column
    outcome = insert_rows(state, column, repeated(rows, command.times()))
    if len(rows) > 1:
        outcome.line = state.line
        outcome.column = column
    return outcome


def put_stored(state, command):
    stored = state.stored.get(command.letter)
    if stored is None:
        raise Bell()
    if stored[0]:
        return put_lines(state, command, stored[1])
    return put_bytes(state, command, stored[1])


def insert_rows(state, column, rows):
    """These bytes in one's line, one being on the byte before their end."""
    start = (state.line, column)
    end = end_of(start, rows)
    return Outcome(end[0], max(end[1] - 1, 0), state.line, state.line + 1, spliced(state.rows, start, start, rows))


def insert_column(state, verb):
    row = state.row()
    if verb == INSERT:
        return state.column
    if verb == APPEND:
        return behind_byte(state)
    if verb == INSERT_AT_FRONT:
        return indent(row)
    return len(row)


def insert(state, command):
    state.check_room(command.times() * len(command.put))
    rows = repeated(rows_of(command.put), command.times())
    return insert_rows(state, insert_column(state, command.verb), rows)


def new_line(state, command):
    line = state.line
    if command.verb == OPEN_BELOW:
        line += 1
    rows = rows_of(command.put)
    end = end_of((line, 0), rows)
    return Outcome(end[0], max(end[1] - 1, 0), line, line, rows)


def needs_space(row, other):
    """Whether a space is put between two rows that become one."""
    if not row or not other:
        return False
    return not is_blank(row[-1]) and other[0] != CLOSING


def join_lines(state, command):
    behind = state.line + max(command.times(), 2)
    if behind > len(state.rows):
        raise Bell()
    joined = list(state.row())
    column = 0
    for row in state.rows[state.line + 1:behind]:
        other = row[indent(row):]
        column = len(joined)
        if needs_space(joined, other):
            joined.append(SPACE)
        joined.extend(other)
    return Outcome(state.line, column, state.line, behind, [joined])


def other_case(byte):
    if is_small(byte):
        return byte - TO_CAPITAL
    if is_capital(byte):
        return byte + TO_CAPITAL
    return byte


def exchange_row(state, column, row):
    """Another row in the place of one's own, one being at this column."""
    return Outcome(state.line, column, state.line, state.line + 1, [row])


def switch_case(state, command):
    row = state.row()
    if not row:
        raise Bell()
    behind = state.column + command.times()
    switched = [other_case(byte) for byte in row[state.column:behind]]
    return exchange_row(state, behind, row[:state.column] + switched + row[behind:])


def replace_bytes(state, command):
    row = state.row()
    behind = state.column + command.times()
    if behind > len(row):
        raise Bell()
    return exchange_row(state, behind - 1, row[:state.column] + command.given * command.times() + row[behind:])


CHANGES = {
    112: put_stored,  # p
    80: put_stored,  # P
    74: join_lines,  # J
    126: switch_case,  # ~
    114: replace_bytes,  # r
    105: insert,  # i
    97: insert,  # a
    73: insert,  # I
    65: insert,  # A
    111: new_line,  # o
    79: new_line,  # O
}


def change_of(state, command):
    """The outcome of a command that changes the text and has no operator."""
    verb = CHANGES[command.verb]
    return verb(state, command)
