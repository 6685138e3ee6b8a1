"""Motions to bytes that are named or that go with others: in the line, by search, by brackets."""

from fewkeys.bell import Bell
from fewkeys.goal import THROUGH, TO, Goal
from fewkeys.rows import columns_of, entry, exit_column

FIND_AHEAD = 102
TILL_AHEAD = 116
TILL_BACK = 84
OTHER_FIND = {102: 70, 70: 102, 116: 84, 84: 116}

SEARCH_AHEAD = 47
OTHER_SEARCH = {47: 63, 63: 47}

PARTNERS = {40: 41, 41: 40, 91: 93, 93: 91, 123: 125, 125: 123}
OPENING = (40, 91, 123)


def find_key(state, key, byte, times):
    """The goal of f, t, F or T and a byte."""
    ahead = key == FIND_AHEAD or key == TILL_AHEAD
    step = 1 if ahead else -1
    columns = columns_of(state.row(), [byte], state.column + step, step, times)
    if len(columns) < times:
        raise Bell()
    column = columns[-1]
    if key == TILL_AHEAD or key == TILL_BACK:
        column -= step
    return Goal(THROUGH if ahead else TO, state.line, column)


def find(state, command):
    return find_key(state, command.motion, command.given[0], command.times())


def find_again(state, command):
    if state.found is None:
        raise Bell()
    return find_key(state, state.found[0], state.found[1], command.times())


def find_other_way(state, command):
    if state.found is None:
        raise Bell()
    return find_key(state, OTHER_FIND[state.found[0]], state.found[1], command.times())


def places_in(state, line, sought, step, most):
    """The first so many places by step in a line."""
    row = state.rows[line]
    return [(line, column) for column in columns_of(row, sought, entry(row, step), step, most)]


def places_around(state, sought, step, most):
    """The first so many places from one on by step, going round the text once; one's own place is the last."""
    columns = columns_of(state.row(), sought, state.column + step, step, most)
    places = [(state.line, column) for column in columns]
    turn = 1
    while len(places) < most and turn < len(state.rows):
        line = (state.line + turn * step) % len(state.rows)
        places.extend(places_in(state, line, sought, step, most - len(places)))
        turn += 1
    if len(places) < most:
        around = places_in(state, state.line, sought, step, most)
        places.extend([place for place in around if (place[1] - state.column) * step <= 0])
    return places


def search_key(state, key, sought, times):
    """The goal of / or ? and bytes."""
    places = places_around(state, sought, 1 if key == SEARCH_AHEAD else -1, times)
    if not places:
        raise Bell()
    # Where there are fewer than times, these are all, and one goes round and round.
    place = places[(times - 1) % len(places)]
    return Goal(TO, place[0], place[1])


def check_sought(state):
    """A Bell if nothing has been looked for yet."""
    if state.sought is None:
        raise Bell()


def search(state, command):
    sought = command.given
    if not sought:
        check_sought(state)
        sought = state.sought[1]
    return search_key(state, command.motion, sought, command.times())


def search_again(state, command):
    check_sought(state)
    return search_key(state, state.sought[0], state.sought[1], command.times())


def search_other_way(state, command):
    check_sought(state)
    return search_key(state, OTHER_SEARCH[state.sought[0]], state.sought[1], command.times())


def partner_column(row, start, step, own, depth):
    """A tuple: how deep one is behind the row, the column at which the depth came to 0 or None."""
    other = PARTNERS[own]
    for column in range(start, exit_column(row, step), step):
        byte = row[column]
        if byte == own:
            depth += 1
        elif byte == other:
            depth -= 1
            if depth == 0:
                return (0, column)
    return (depth, None)


def partner(state, start):
    """The goal at the bracket that goes with the one at this column."""
    own = state.row()[start]
    step = 1 if own in OPENING else -1
    line = state.line
    reached = partner_column(state.row(), start, step, own, 0)
    while reached[1] is None:
        line += step
        if not 0 <= line < len(state.rows):
            raise Bell()
        row = state.rows[line]
        reached = partner_column(row, entry(row, step), step, own, reached[0])
    return Goal(THROUGH, line, reached[1])


def bracket(state, command):
    row = state.row()
    column = state.column
    while column < len(row):
        if row[column] in PARTNERS:
            return partner(state, column)
        column += 1
    raise Bell()


FINDING_MOTIONS = {
    102: find,  # f
    116: find,  # t
    70: find,  # F
    84: find,  # T
    59: find_again,  # ;
    44: find_other_way,  # ,
    47: search,  # /
    63: search,  # ?
    110: search_again,  # n
    78: search_other_way,  # N
    37: bracket,
}
