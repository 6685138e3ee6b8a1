"""Rows: the bytes of a text's lines, each a list of numbers that is never changed once it is made.

Because of that a row may stand in the text, in a register and in what u brings back at the same time.
A place is a tuple: the line, the column.
"""

TAB = 9
NEWLINE = 10
SPACE = 32
UNDERSCORE = 95


def is_blank(byte):
    return byte == SPACE or byte == TAB


def is_small(byte):
    return 97 <= byte <= 122


def is_capital(byte):
    return 65 <= byte <= 90


def sign(byte, wide):
    """0 for a blank, 1 for what words are made of, 2 for all else; if wide, words are made of all else too."""
    if is_blank(byte):
        return 0
    if wide or is_small(byte) or is_capital(byte) or 48 <= byte <= 57 or byte == UNDERSCORE:
        return 1
    return 2


def last_column(row):
    """The column of the last byte; a row without bytes has column 0 all the same."""
    return max(len(row) - 1, 0)


def indent(row):
    """How many blanks stand in front."""
    many = 0
    while many < len(row) and is_blank(row[many]):
        many += 1
    return many


def front(row):
    return min(indent(row), last_column(row))


def size_of(rows):
    """How many bytes the rows have with a newline behind each."""
    return sum([len(row) for row in rows]) + len(rows)


def rows_of(given):
    """What stands between the newlines: always one row more than there are newlines."""
    rows = []
    row = []
    for byte in given:
        if byte == NEWLINE:
            rows.append(row)
            row = []
        else:
            row.append(byte)
    rows.append(row)
    return rows


def text_rows(given):
    """The lines of a text: its last newline ends a line and begins none."""
    rows = rows_of(given)
    if len(rows) > 1 and not rows[-1]:
        rows.pop()
    return rows


def entry(row, step):
    """The column at which one who goes by step, 1 or -1, comes into the row."""
    return 0 if step > 0 else len(row) - 1


def exit_column(row, step):
    """The first column by step that lies no more in the row."""
    return len(row) if step > 0 else -1


def columns_of(row, sought, start, step, most):
    """The first so many columns, from start on by step, at which these bytes, one at least, stand in the row."""
    first = sought[0]
    many = len(sought)
    found = []
    for column in range(start, exit_column(row, step), step):
        if row[column] == first and row[column:column + many] == sought:
            found.append(column)
            if len(found) == most:
                break
    return found


def repeated(rows, times):
    """The rows so many times as bytes: each time goes on in the row in which the one before ended."""
    if len(rows) == 1:
        return [rows[0] * times]
    inner = rows[1:-1]
    seam = rows[-1] + rows[0]
    return [rows[0]] + (inner + [seam]) * (times - 1) + inner + [rows[-1]]


def cut(rows, start, behind):
    """The bytes from start up to behind, as rows."""
    if start[0] == behind[0]:
        return [rows[start[0]][start[1]:behind[1]]]
    inner = rows[start[0] + 1:behind[0]]
    return [rows[start[0]][start[1]:]] + inner + [rows[behind[0]][:behind[1]]]


def spliced(rows, start, behind, put):
    """The rows from start's to behind's, with other bytes in the place of those from start up to behind."""
    head = rows[start[0]][:start[1]]
    tail = rows[behind[0]][behind[1]:]
    if len(put) == 1:
        return [head + put[0] + tail]
    return [head + put[0]] + put[1:-1] + [put[-1] + tail]


def end_of(start, put):
    """The place behind these bytes, if they are put in at start."""
    if len(put) == 1:
        return (start[0], start[1] + len(put[0]))
    return (start[0] + len(put) - 1, len(put[-1]))
