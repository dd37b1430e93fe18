"""Whom a letter is for, and which lines are for them."""

from mailmoves.folding import is_wide, lines_of_words
from mailmoves.lines import LAST_DAY, LAST_POINT, MOST_LETTERS
from mailmoves.refusals import NotWide, TooFar, TooMuch

MOST_CHARACTERS = 512
MOST_LINES = 8
MOST_WORDS = 128


def check_characters(name):
    if len(name) > MOST_CHARACTERS:
        raise TooMuch()
    for place, number in enumerate(name):
        if not is_wide(number):
            raise NotWide(place)


def words_of(name):
    lines = lines_of_words(name)
    words = []
    for line in lines:
        words.extend(line)
    if len(lines) > MOST_LINES or len(words) > MOST_WORDS:
        raise TooMuch()
    if any([len(word) > MOST_LETTERS for word in words]):
        raise TooMuch()
    return words


def check_point_and_day(point, day):
    if point > LAST_POINT or day > LAST_DAY:
        raise TooFar()


def person_of_letter(point, day, name):
    """The words of the name on a letter; else its first refusal, in the order of the document."""
    check_characters(name)
    words = words_of(name)
    check_point_and_day(point, day)
    return words


def is_for(line, person):
    """Whether a line's words, if it has some, stand in this order among a person's."""
    if line.words is None:
        return True
    found = 0
    for word in person:
        if found < len(line.words) and word == line.words[found]:
            found += 1
    return found == len(line.words)
