"""One line of redirections, read from its bytes."""

from mailmoves.alphabet import letter_of

MOVE = "move"
HOLD = "hold"
STOP = "stop"
KINDS = (MOVE, HOLD, STOP)

LAST_POINT = 4095
LAST_DAY = 1000000
MOST_WORDS = 8
MOST_LETTERS = 32

BLANK = 32


class NotALine(Exception):
    """Some bytes are none of the three lines."""


class Line:
    """A line that is right: what its parts say, None where a part is left out; its number once it stands in a text."""

    def __init__(self, kind, point):
        self.number = None
        self.kind = kind
        self.point = point
        self.target = None
        self.first_day = None
        self.end_day = None
        self.told_to_all = False
        self.words = None


class Pieces:
    """What stands in a line, between its blanks, gone through from the first on."""

    def __init__(self, pieces):
        self.pieces = pieces
        self.place = 0

    def at_end(self):
        return self.place == len(self.pieces)

    def step(self):
        if self.at_end():
            raise NotALine()
        piece = self.pieces[self.place]
        self.place += 1
        return piece

    def skip(self, word):
        if self.at_end() or self.pieces[self.place] != word:
            return False
        self.place += 1
        return True

    def rest(self):
        left = self.pieces[self.place:]
        self.place = len(self.pieces)
        return left


def checked_letter(byte):
    letter = letter_of(byte)
    if not letter:
        raise NotALine()
    return letter


def closed_piece(letters):
    # Two blanks together, or one at either end of a line, leave nothing between.
    if not letters:
        raise NotALine()
    return "".join(letters)


def pieces_of(row):
    pieces = []
    letters = []
    for byte in row:
        if byte == BLANK:
            pieces.append(closed_piece(letters))
            letters = []
        else:
            letters.append(checked_letter(byte))
    pieces.append(closed_piece(letters))
    return pieces


def number_of(piece, most):
    if not piece.isdigit():
        raise NotALine()
    if piece.startswith("0") and piece != "0":
        raise NotALine()
    # Python refuses to turn thousands of digits into a number: they are counted first.
    if len(piece) > len(str(most)) or int(piece) > most:
        raise NotALine()
    return int(piece)


def read_target(pieces, point):
    target = number_of(pieces.step(), LAST_POINT)
    if target == point:
        raise NotALine()
    return target


def read_end_day(pieces, kind, first_day):
    if pieces.skip("until"):
        end_day = number_of(pieces.step(), LAST_DAY)
        if end_day <= first_day:
            raise NotALine()
        return end_day
    if kind == HOLD:
        raise NotALine()
    return None


def read_words(pieces):
    if not pieces.skip("for"):
        return None
    words = pieces.rest()
    if not 1 <= len(words) <= MOST_WORDS:
        raise NotALine()
    if any([len(word) > MOST_LETTERS for word in words]):
        raise NotALine()
    return words


def read_line(row):
    """The line that these bytes are, its line feed left out; else NotALine."""
    pieces = Pieces(pieces_of(row))
    kind = pieces.step()
    if kind not in KINDS:
        raise NotALine()
    line = Line(kind, number_of(pieces.step(), LAST_POINT))
    if kind == MOVE:
        line.target = read_target(pieces, line.point)
    line.first_day = number_of(pieces.step(), LAST_DAY)
    line.end_day = read_end_day(pieces, kind, line.first_day)
    if kind == MOVE:
        line.told_to_all = pieces.skip("open")
    line.words = read_words(pieces)
    if not pieces.at_end():
        raise NotALine()
    return line
