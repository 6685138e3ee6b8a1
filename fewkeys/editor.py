"""The calls on one editor, handed in as one list of numbers."""

from fewkeys.bell import Bell
from fewkeys.gathering import Gathering, take
from fewkeys.performing import perform
from fewkeys.rows import NEWLINE, text_rows
from fewkeys.state import MOST_BYTES, State

ED_BEGIN = 0
ED_TEXT = 1
ED_KEYS = 2
ED_GET = 3
MOST_TEXT = 65535
MOST_KEYS = 65536


class Editor:
    """The editor that a list of calls is about."""

    def __init__(self):
        self.state = State([[]])

    def begin(self):
        self.state = State([[]])
        return [0]

    def set_text(self, given):
        if len(given) > MOST_TEXT:
            return [-1]
        self.state = State(text_rows(given))
        return [0]

    def press(self, key):
        """How many bells the key gives: 0 or 1."""
        state = self.state
        try:
            command = take(state.gathering, key)
            if command is not None:
                state.gathering = Gathering()
                perform(state, command)
        except Bell:
            state.gathering = Gathering()
            return 1
        return 0

    def press_all(self, given):
        if len(given) > MOST_KEYS:
            return [-1]
        bells = 0
        for key in given:
            bells += self.press(key)
        return [bells]

    def get_text(self, most):
        state = self.state
        if most > MOST_BYTES:
            return [-1]
        if state.size > most:
            return [-2]
        answer = [state.size]
        for row in state.rows:
            answer.extend(row)
            answer.append(NEWLINE)
        return answer

    def where(self):
        state = self.state
        return [0, state.line, state.column, len(state.rows), state.gathering.many]


def answers(calls):
    """For each call, in order: how many numbers are answered, and these."""
    editor = Editor()
    told = []
    at = 0
    while at < len(calls):
        call = calls[at]
        at += 1
        if call == ED_TEXT or call == ED_KEYS:
            behind = at + 1 + calls[at]
            given = calls[at + 1:behind]
            at = behind
            answer = editor.set_text(given) if call == ED_TEXT else editor.press_all(given)
        elif call == ED_GET:
            answer = editor.get_text(calls[at])
            at += 1
        elif call == ED_BEGIN:
            answer = editor.begin()
        else:
            answer = editor.where()
        told.append(len(answer))
        told.extend(answer)
    return told
