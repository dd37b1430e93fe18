"""What counts at a point on a day, and the way of a letter."""

from mailmoves.lines import MOVE, STOP
from mailmoves.persons import is_for

MOST_STEPS = 32

HANDED_OVER = 0
STOPPED = 1
ROUND = 2
TOO_LONG = 3
MOVED = 4


def rank(line):
    return (line.words is not None, line.first_day, line.number)


def ranked_by_point(lines):
    """The lines of each point, those ahead that count before others."""
    by_point = {}
    for line in sorted(lines, key=rank, reverse=True):
        by_point.setdefault(line.point, []).append(line)
    return by_point


def is_in_force(line, day):
    return line.first_day <= day and (line.end_day is None or day < line.end_day)


class PersonLines:
    """The lines that are for one person, asked point by point and day by day."""

    def __init__(self, by_point, person):
        self.by_point = by_point
        self.person = person
        # Ways meet again and again: what was found once is kept, for the lines stay as they are.
        self.own = {}
        self.found = {}

    def own_lines(self, point):
        if point not in self.own:
            self.own[point] = [line for line in self.by_point.get(point, []) if is_for(line, self.person)]
        return self.own[point]

    def search(self, point, day):
        for line in self.own_lines(point):
            if is_in_force(line, day):
                return line
        return None

    def counting(self, point, day):
        """The line that counts there on this day, or None."""
        if (point, day) not in self.found:
            self.found[(point, day)] = self.search(point, day)
        return self.found[(point, day)]


class Way:
    """How and where a letter ends, the lines by which it went, and the one that counts where it ends."""

    def __init__(self, how, point, day, lines, last):
        self.how = how
        self.point = point
        self.day = day
        self.lines = lines
        self.last = last


def end_at(line, may, been_there, steps):
    """How a letter ends where this line counts; None if it goes on."""
    if line is None:
        return HANDED_OVER
    if line.kind == STOP:
        return STOPPED
    if line.kind == MOVE and not may:
        return MOVED
    if been_there:
        return ROUND
    if steps >= MOST_STEPS:
        return TOO_LONG
    return None


def way_of(person_lines, point, day, may):
    """The way of a letter that is at a point on a day."""
    been = {}
    gone = []
    while True:
        line = person_lines.counting(point, day)
        how = end_at(line, may, (point, day) in been, len(gone))
        if how is not None:
            return Way(how, point, day, gone, line)
        been[(point, day)] = True
        gone.append(line)
        if line.kind == MOVE:
            point = line.target
        else:
            day = line.end_day


def is_told(way):
    """Whether anybody may be told where a letter of this way is."""
    closed = [line for line in way.lines if line.kind == MOVE and not line.told_to_all]
    return way.how == HANDED_OVER and not closed


def starts_into(person_lines, point, day):
    """The points, rising, whose letters are handed over at this one."""
    # Where no line stands a letter stays: of such points just this one itself can be meant.
    starts = []
    for start in sorted(set(list(person_lines.by_point) + [point])):
        way = way_of(person_lines, start, day, True)
        if way.how == HANDED_OVER and way.point == point:
            starts.append(start)
    return starts
