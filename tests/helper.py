"""What the tests share: calls written as lists, answers parted call by call, and a model to check them by."""

import re

from mailmoves.desk import answers

TEXT = [2]
SIZES = [3]
DONE = [0]

NUMBER = rb"(0|[1-9][0-9]*)"
WORDS = rb"(?: for [a-z0-9]{1,32}(?: [a-z0-9]{1,32}){0,7})?"
UNTIL = rb" until " + NUMBER
FORMS = (
    re.compile(rb"move " + NUMBER + rb" " + NUMBER + rb" " + NUMBER + rb"(?:" + UNTIL + rb")?(?: open)?" + WORDS),
    re.compile(rb"hold " + NUMBER + rb"()" + rb" " + NUMBER + UNTIL + WORDS),
    re.compile(rb"stop " + NUMBER + rb"()" + rb" " + NUMBER + rb"(?:" + UNTIL + rb")?" + WORDS),
)


def as_bytes(text):
    return text if isinstance(text, (bytes, list)) else text.encode("latin-1")


def text_of(lines):
    return "".join(line + "\n" for line in lines)


def take(text):
    return [0, len(as_bytes(text))] + list(as_bytes(text))


def more(text):
    return [1, len(as_bytes(text))] + list(as_bytes(text))


def letters(name):
    return [ord(sign) for sign in name] if isinstance(name, str) else list(name)


def at(point, day, name=""):
    return [4, point, day, len(letters(name))] + letters(name)


def follow(point, day, may=1, name=""):
    return [5, point, day, may, len(letters(name))] + letters(name)


def where(point, day, name=""):
    return [6, point, day, len(letters(name))] + letters(name)


def into(point, day):
    return [7, point, day]


def told(text):
    """What the call text answers when this text is held."""
    return [len(as_bytes(text))] + list(as_bytes(text))


def parted(numbers):
    parts = []
    place = 0
    while place < len(numbers):
        size = numbers[place]
        parts.append(numbers[place + 1:place + 1 + size])
        place += 1 + size
    assert place == len(numbers), "the last answer is shorter than it says"
    return parts


def ask(*calls):
    return parted(answers([number for call in calls for number in call]))


def fits(digits, most):
    # A row of thousands of digits is above each limit, and Python won't read it.
    return len(digits) <= 7 and int(digits) <= most


def is_line(row):
    """Whether a row of bytes is a line: told once more, by patterns, as a check."""
    for form in FORMS:
        found = form.fullmatch(row)
        if found:
            point, target, first, end = found.groups()
            return (fits(point, 4095) and fits(target or b"0", 4095) and target != point
                    and fits(first, 1000000)
                    and (end is None or fits(end, 1000000) and int(first) < int(end)))
    return False


def fault_of(text):
    """The fault of a text as take tells it, or None if there is none."""
    rows = text.split(b"\n")
    for number, row in enumerate(rows[:-1]):
        if not is_line(row):
            return [-6, number, 1]
        if number == 4096:
            return [-6, number, 2]
    return [-6, len(rows) - 1, 1] if rows[-1] else None


# The table of the document: from a character to a character (hexadecimal), and what each of them stands for.
FOLDING_ROWS = """
30 39 0 1 2 3 4 5 6 7 8 9
61 7A a b c d e f g h i j k l m n o p q r s t u v w x y z
41 5A a b c d e f g h i j k l m n o p q r s t u v w x y z
AA AA a
BA BA o
B9 B9 1
B2 B2 2
B3 B3 3
2070 2070 0
2074 2079 4 5 6 7 8 9
2080 2089 0 1 2 3 4 5 6 7 8 9
C0 C5 a a a a a a
C7 C7 c
C8 CB e e e e
CC CF i i i i
D0 D0 d
D1 D1 n
D2 D6 o o o o o
D8 D8 o
D9 DC u u u u
DD DD y
C6 C6 ae
DE DE th
DF DF ss
E0 E5 a a a a a a
E6 E6 ae
E7 E7 c
E8 EB e e e e
EC EF i i i i
F0 F0 d
F1 F1 n
F2 F6 o o o o o
F8 F8 o
F9 FC u u u u
FD FD y
FE FE th
FF FF y
100 105 a a a a a a
106 10D c c c c c c c c
10E 111 d d d d
112 11B e e e e e e e e e e
11C 123 g g g g g g g g
124 127 h h h h
128 131 i i i i i i i i i i
134 134 j
135 135 j
136 138 k k k
132 132 ij
133 133 ij
152 152 oe
153 153 oe
14A 14A ng
14B 14B ng
139 142 l l l l l l l l l l
143 149 n n n n n n n
14C 151 o o o o o o
154 159 r r r r r r
15A 161 s s s s s s s s
162 167 t t t t t t
168 173 u u u u u u u u u u u u
174 174 w
175 175 w
176 178 y y y
179 17E z z z z z z
17F 17F s
218 21B s s t t
1E9E 1E9E ss
2116 2116 no
FB00 FB06 ff fi fl ffi ffl st st
FF10 FF19 0 1 2 3 4 5 6 7 8 9
FF21 FF3A a b c d e f g h i j k l m n o p q r s t u v w x y z
FF41 FF5A a b c d e f g h i j k l m n o p q r s t u v w x y z
"""
VANISHING_ROWS = "27 27,60 60,AD AD,B4 B4,2BC 2BC,300 36F,200B 200D,2018 2018,2019 2019,2060 2060,FEFF FEFF"


def vanishing_ranges():
    return [tuple(int(end, 16) for end in row.split()) for row in VANISHING_ROWS.split(",")]


def folding_ranges():
    return [tuple(int(end, 16) for end in row.split()[:2]) for row in FOLDING_ROWS.split("\n") if row]


def folding_table():
    """What each character stands for: letters, no letter if it vanishes; those that are left out part."""
    table = {10: "\n"}
    for row in FOLDING_ROWS.split("\n"):
        if row:
            first, last, *stands_for = row.split()
            characters = range(int(first, 16), int(last, 16) + 1)
            assert len(characters) == len(stands_for) and not table.keys() & set(characters), row
            table.update(zip(characters, stands_for))
    for first, last in vanishing_ranges():
        assert not table.keys() & set(range(first, last + 1))
        table.update((character, "") for character in range(first, last + 1))
    return table


TABLE = folding_table()


def edges_of(ranges):
    """The first and the last character of each range, and the ones just before and behind it."""
    return sorted({edge for first, last in ranges for edge in (first - 1, first, last, last + 1)})


def words_by_line(name):
    rows = "".join(TABLE.get(character, " ") for character in name).split("\n")
    return [row.split() for row in rows if row.split()]


def name_refusal(name):
    if len(name) > 512:
        return [-2]
    for place, number in enumerate(name):
        if number < 1 or number > 1114111 or 55296 <= number <= 57343:
            return [-6, place]
    rows = words_by_line(name)
    words = sum(rows, [])
    return [-2] if len(rows) > 8 or len(words) > 128 or max(map(len, words), default=0) > 32 else None


class ModelLine:
    """A right line, parted once more."""

    def __init__(self, number, row):
        self.number = number
        row, found, words = row.decode().partition(" for ")
        self.words = words.split() if found else None
        parts = row.split()
        self.told = parts[-1] == "open"
        self.end = int(parts[parts.index("until") + 1]) if "until" in parts else 10 ** 9
        self.kind = parts[0]
        self.point = int(parts[1])
        self.target = int(parts[2]) if self.kind == "move" else None
        self.first = int(parts[3] if self.kind == "move" else parts[2])

    def is_for(self, words):
        left = iter(words)
        return self.words is None or all(word in left for word in self.words)


class Model:
    """The calls told once more, in the document's order and without any haste, as a check."""

    def __init__(self):
        self.hold(b"")

    def hold(self, text):
        self.held = text
        self.lines = {}
        for number, row in enumerate(text.split(b"\n")[:-1]):
            line = ModelLine(number, row)
            self.lines.setdefault(line.point, []).append(line)

    def counting(self, point, day, words):
        lines = [line for line in self.lines.get(point, [])
                 if line.first <= day < line.end and line.is_for(words)]
        lines = [line for line in lines if line.words is not None] or lines
        latest = max((line.first for line in lines), default=None)
        return ([line for line in lines if line.first == latest] or [None])[-1]

    def way(self, point, day, may, words):
        """How a letter ends, where, when, the lines by which it went, and the one that counts there."""
        places, gone = [], []
        while True:
            line = self.counting(point, day, words)
            if line is None:
                return 0, point, day, gone, []
            why = None
            if line.kind == "stop":
                why = 1
            elif line.kind == "move" and may == 0:
                why = 4
            elif (point, day) in places:
                why = 2
            elif len(gone) == 32:
                why = 3
            if why:
                return why, point, day, gone, [line]
            places.append((point, day))
            gone.append(line)
            point, day = (line.target, day) if line.kind == "move" else (point, line.end)

    def answer_letter(self, number, point, day, may, name):
        refusal = name_refusal(name) or ([-1] if point > 4095 or day > 1000000 else None)
        if refusal:
            return refusal
        words = sum(words_by_line(name), [])
        if number == 4:
            line = self.counting(point, day, words)
            return [-3] if line is None else [line.number]
        how, point, day, gone, behind = self.way(point, day, may, words)
        if number == 5:
            return [0, how, point, day, len(gone)] + [line.number for line in gone + behind]
        shut = [line for line in gone if line.kind == "move" and not line.told]
        return [-3] if how or shut else [point]

    def answer_into(self, point, day):
        if point > 4095 or day > 1000000:
            return [-1]
        starts = [start for start in range(4096) if self.way(start, day, 1, [])[:2] == (0, point)]
        return [len(starts)] + starts

    def answer(self, call):
        if call == TEXT:
            return told(self.held)
        if call == SIZES:
            rows = self.held.split(b"\n")[:-1]
            return [0, len(rows)] + [sum(row.startswith(kind) for row in rows) for kind in (b"move", b"hold", b"stop")]
        if call[0] == 7:
            return self.answer_into(*call[1:])
        if call[0] == 5:
            return self.answer_letter(5, call[1], call[2], call[3], call[5:])
        if call[0] in (4, 6):
            return self.answer_letter(call[0], call[1], call[2], 1, call[4:])
        text = (self.held if call[0] == 1 else b"") + bytes(call[2:])
        fault = fault_of(text)
        if fault is None:
            self.hold(text)
        return fault or DONE


def model_answers(*calls):
    model = Model()
    return [model.answer(call) for call in calls]
