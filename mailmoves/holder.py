"""The object that holds lines of redirections, and what it answers."""

from mailmoves.lines import HOLD, MOVE, STOP
from mailmoves.texts import TextFault, read_text

MOST_BYTES = 65536

DONE = 0
TOO_MUCH = -2
FAULTY = -6


class Holder:
    """Holds lines, and the bytes that they were read from."""

    def __init__(self):
        self.held_lines = []
        self.held_text = []

    def take(self, text):
        return self.hold_behind([], [], text)

    def more(self, text):
        return self.hold_behind(self.held_lines, self.held_text, text)

    def hold_behind(self, lines, lines_text, text):
        if len(lines_text) + len(text) > MOST_BYTES:
            return [TOO_MUCH]
        try:
            new_lines = read_text(text, len(lines))
        except TextFault as fault:
            return [FAULTY, fault.line_number, fault.why]
        self.held_lines = lines + new_lines
        self.held_text = lines_text + text
        return [DONE]

    def text(self):
        return [len(self.held_text)] + self.held_text

    def sizes(self):
        kinds = [line.kind for line in self.held_lines]
        return [DONE, len(kinds), kinds.count(MOVE), kinds.count(HOLD), kinds.count(STOP)]
