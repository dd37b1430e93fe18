"""The object that holds lines of redirections, and what it answers."""

from mailmoves.lines import HOLD, MOVE, STOP
from mailmoves.persons import check_point_and_day, person_of_letter
from mailmoves.refusals import NoneToTell, TooMuch
from mailmoves.texts import read_text
from mailmoves.ways import HANDED_OVER, PersonLines, is_told, ranked_by_point, starts_into, way_of

MOST_BYTES = 65536

DONE = 0


class Holder:
    """Holds lines, and the bytes that they were read from; a refused call is an error of its own."""

    def __init__(self):
        self.hold([], [])

    def hold(self, lines, lines_text):
        self.held_lines = lines
        self.held_text = lines_text
        self.by_point = ranked_by_point(lines)
        self.nobody = PersonLines(self.by_point, [])

    def hold_behind(self, lines, lines_text, text):
        if len(lines_text) + len(text) > MOST_BYTES:
            raise TooMuch()
        self.hold(lines + read_text(text, len(lines)), lines_text + text)
        return [DONE]

    def take(self, text):
        return self.hold_behind([], [], text)

    def more(self, text):
        return self.hold_behind(self.held_lines, self.held_text, text)

    def text(self):
        return [len(self.held_text)] + self.held_text

    def sizes(self):
        kinds = [line.kind for line in self.held_lines]
        return [DONE, len(kinds), kinds.count(MOVE), kinds.count(HOLD), kinds.count(STOP)]

    def lines_for_letter(self, point, day, name):
        return PersonLines(self.by_point, person_of_letter(point, day, name))

    def at(self, point, day, name):
        line = self.lines_for_letter(point, day, name).counting(point, day)
        if line is None:
            raise NoneToTell()
        return [line.number]

    def follow(self, point, day, may, name):
        way = way_of(self.lines_for_letter(point, day, name), point, day, may == 1)
        numbers = [line.number for line in way.lines]
        if way.how != HANDED_OVER:
            numbers.append(way.last.number)
        return [DONE, way.how, way.point, way.day, len(way.lines)] + numbers

    def where(self, point, day, name):
        way = way_of(self.lines_for_letter(point, day, name), point, day, True)
        if not is_told(way):
            raise NoneToTell()
        return [way.point]

    def into(self, point, day):
        check_point_and_day(point, day)
        starts = starts_into(self.nobody, point, day)
        return [len(starts)] + starts
