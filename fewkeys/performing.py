"""A command that is whole is done, or it's a Bell and nothing has changed."""

from fewkeys.bell import Bell
from fewkeys.changes import change_of
from fewkeys.command import FINDS, SEARCHES
from fewkeys.motions import goal_of
from fewkeys.operators import operate
from fewkeys.state import Outcome

UNDO = 117
AGAIN = 46
SET_MARK = 109


def outcome_of(state, command):
    """What the command comes to; nothing of the state is changed yet."""
    if command.verb is None:
        goal = goal_of(state, command)
        return Outcome(goal.line, goal.column)
    if command.operates():
        return operate(state, command)
    return change_of(state, command)


def remember_motion(state, command):
    """What ; , n N and a search without bytes go back to; behind all else, as a Bell is to change nothing."""
    if command.motion in FINDS:
        state.found = (command.motion, command.given[0])
    if command.motion in SEARCHES:
        state.sought = (command.motion, command.given if command.given else state.sought[1])


def settle(state, command, outcome):
    if outcome.rows is None:
        state.go(outcome.line, outcome.column)
    else:
        state.lay(outcome)
        state.again = command
    if outcome.stored is not None:
        state.stored[0] = outcome.stored
        state.stored[command.letter] = outcome.stored
    remember_motion(state, command)


def take_back(state):
    if state.before is None:
        raise Bell()
    state.lay(state.before)


def last_change(state, count):
    """The command of the last change, with the new count if there is one."""
    if state.again is None:
        raise Bell()
    return state.again.with_count(count)


def perform(state, command):
    if command.verb == UNDO:
        take_back(state)
    elif command.verb == SET_MARK:
        state.marks[command.given[0]] = (state.line, state.column)
    elif command.verb == AGAIN:
        command = last_change(state, command.count)
        settle(state, command, outcome_of(state, command))
    else:
        settle(state, command, outcome_of(state, command))
