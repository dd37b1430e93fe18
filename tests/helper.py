"""What the tests share: calls written as lists, and answers parted call by call."""

import re

from mailmoves.desk import answers

TEXT = [2]
SIZES = [3]
DONE = [0]

NUMBER = rb"(0|[1-9][0-9]*)"
WORDS = rb"(?: for [a-z0-9]{1,32}(?: [a-z0-9]{1,32}){0,7})?"
UNTIL = rb" until " + NUMBER
FORMS = (
    re.compile(rb"move " + NUMBER + rb" " + NUMBER + rb" " + NUMBER + rb"(?:" + UNTIL + rb")?(?: open)?" + WORDS),
    re.compile(rb"hold " + NUMBER + rb"()" + rb" " + NUMBER + UNTIL + WORDS),
    re.compile(rb"stop " + NUMBER + rb"()" + rb" " + NUMBER + rb"(?:" + UNTIL + rb")?" + WORDS),
)


def as_bytes(text):
    return text if isinstance(text, (bytes, list)) else text.encode("latin-1")


def take(text):
    return [0, len(as_bytes(text))] + list(as_bytes(text))


def more(text):
    return [1, len(as_bytes(text))] + list(as_bytes(text))


def told(text):
    """What the call text answers when this text is held."""
    return [len(as_bytes(text))] + list(as_bytes(text))


def parted(numbers):
    parts = []
    place = 0
    while place < len(numbers):
        size = numbers[place]
        parts.append(numbers[place + 1:place + 1 + size])
        place += 1 + size
    assert place == len(numbers), "the last answer is shorter than it says"
    return parts


def ask(*calls):
    return parted(answers([number for call in calls for number in call]))


def fits(digits, most):
    # A row of thousands of digits is above each limit, and Python won't read it.
    return len(digits) <= 7 and int(digits) <= most


def is_line(row):
    """Whether a row of bytes is a line: told once more, by patterns, as a check."""
    for form in FORMS:
        found = form.fullmatch(row)
        if found:
            point, target, first, end = found.groups()
            return (fits(point, 4095) and fits(target or b"0", 4095) and target != point
                    and fits(first, 1000000)
                    and (end is None or fits(end, 1000000) and int(first) < int(end)))
    return False


def fault_of(text):
    """The fault of a text as take tells it, or None if there is none."""
    rows = text.split(b"\n")
    for number, row in enumerate(rows[:-1]):
        if not is_line(row):
            return [-6, number, 1]
        if number == 4096:
            return [-6, number, 2]
    return [-6, len(rows) - 1, 1] if rows[-1] else None
