"""What the tests share: calls made of texts, answers taken apart, and cases written as before, keys, after.

In a case the sign | stands before the byte that one is on.
"""

import unittest

from fewkeys.editor import answers

ESC = "\x1b"
ENTER = "\r"
BACK = "\b"
WHOLE = 65536

BEGIN = [0]
WHERE = [4]


def numbers(text):
    return [ord(sign) for sign in text]


def ed_text(text):
    return [1, len(text)] + numbers(text)


def ed_keys(keys):
    return [2, len(keys)] + numbers(keys)


def ed_get(most=WHOLE):
    return [3, most]


def ask(*calls):
    """The answer of each call, as a list of numbers, of calls on an editor that begins."""
    handed = list(BEGIN)
    for call in calls:
        handed += call
    told = answers(handed)
    taken = []
    at = 0
    while at < len(told):
        taken.append(told[at + 1:at + 1 + told[at]])
        at += 1 + told[at]
    return taken[1:]


def as_text(answer):
    """The text of an ed_get's answer."""
    assert answer[0] == len(answer) - 1, answer
    return "".join(chr(byte) for byte in answer[1:])


def placed(marked):
    """A text with | in it: the text without, the line, the column."""
    before, bar, behind = marked.partition("|")
    assert bar, marked
    return before + behind, before.count("\n"), len(before) - before.rfind("\n") - 1


def going_to(line, column):
    """Keys that bring one there and leave nothing behind."""
    return "%dG0" % (line + 1) + ("%dl" % column if column else "")


class Case(unittest.TestCase):
    def outcome(self, before, *keys):
        """What stands there behind the keys, as text with |, and the bells of each time."""
        text, line, column = placed(before)
        calls = [ed_text(text + "\n"), ed_keys(going_to(line, column)), WHERE]
        told = ask(*calls, *[ed_keys(some) for some in keys], ed_get(), WHERE)
        self.assertEqual(told[1], [0])
        self.assertEqual(told[2][1:3], [line, column], "the case's own place")
        lines = as_text(told[-2])[:-1].split("\n")
        where = told[-1]
        self.assertEqual(where[0], 0)
        self.assertEqual(where[3], len(lines))
        row = lines[where[1]]
        self.assertTrue(0 <= where[2] < max(len(row), 1), where)
        lines[where[1]] = row[:where[2]] + "|" + row[where[2]:]
        return "\n".join(lines), [answer[0] for answer in told[3:-2]], where[4]

    def case(self, before, keys, after, bells=0):
        with self.subTest(before=before, keys=keys):
            self.assertEqual(self.outcome(before, keys), (after, [bells], 0))

    def cases(self, *rows):
        for row in rows:
            self.case(*row)

    def rings(self, before, *several):
        """Each of these keys is one bell, and text and place stay."""
        for keys in several:
            self.case(before, keys, before, 1)
