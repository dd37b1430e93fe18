"""A text of lines of redirections, or its fault."""

from mailmoves.lines import NotALine, read_line

MOST_LINES = 4096
LINE_FEED = 10

NOT_SO = 1
TOO_MANY = 2


class TextFault(Exception):
    """The first line of a text that isn't so: its number, from 0 on, and why."""

    def __init__(self, line_number, why):
        self.line_number = line_number
        self.why = why


def read_numbered(row, line_number):
    try:
        line = read_line(row)
    except NotALine:
        raise TextFault(line_number, NOT_SO) from None
    if line_number >= MOST_LINES:
        raise TextFault(line_number, TOO_MANY)
    line.number = line_number
    return line


def read_text(text, lines_ahead):
    """The lines of a text that stands behind so many right ones; else TextFault."""
    lines = []
    row = []
    for byte in text:
        if byte == LINE_FEED:
            lines.append(read_numbered(row, lines_ahead + len(lines)))
            row = []
        else:
            row.append(byte)
    if row:
        raise TextFault(lines_ahead + len(lines), NOT_SO)
    return lines
