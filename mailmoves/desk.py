"""The calls on one object, which stand one behind another in one list."""

from mailmoves.holder import Holder
from mailmoves.refusals import NoneToTell, NotWide, TooFar, TooMuch
from mailmoves.texts import TextFault

TAKE = 0
MORE = 1
TEXT = 2
SIZES = 3
AT = 4
FOLLOW = 5
WHERE = 6
INTO = 7

TOO_FAR = -1
TOO_MUCH = -2
NONE_TO_TELL = -3
FAULTY = -6


class UnknownCall(Exception):
    """A call's number is none of those above."""


class CallList:
    """A list of calls, gone through number by number and row by row."""

    def __init__(self, numbers):
        self.numbers = numbers
        self.place = 0

    def at_end(self):
        return self.place >= len(self.numbers)

    def step(self):
        number = self.numbers[self.place]
        self.place += 1
        return number

    def row(self):
        size = self.step()
        row = self.numbers[self.place:self.place + size]
        self.place += size
        return row


def answer(holder, calls):
    number = calls.step()
    if number == TAKE:
        return holder.take(calls.row())
    if number == MORE:
        return holder.more(calls.row())
    if number == TEXT:
        return holder.text()
    if number == SIZES:
        return holder.sizes()
    if number == AT:
        return holder.at(calls.step(), calls.step(), calls.row())
    if number == FOLLOW:
        return holder.follow(calls.step(), calls.step(), calls.step(), calls.row())
    if number == WHERE:
        return holder.where(calls.step(), calls.step(), calls.row())
    if number == INTO:
        return holder.into(calls.step(), calls.step())
    raise UnknownCall()


def answer_or_refusal(holder, calls):
    try:
        return answer(holder, calls)
    except TooFar:
        return [TOO_FAR]
    except TooMuch:
        return [TOO_MUCH]
    except NoneToTell:
        return [NONE_TO_TELL]
    except TextFault as fault:
        return [FAULTY, fault.line_number, fault.why]
    except NotWide as refused:
        return [FAULTY, refused.place]


def answers(calls):
    """What a new object answers to these calls: of each how many numbers, then they."""
    holder = Holder()
    call_list = CallList(calls)
    told = []
    while not call_list.at_end():
        numbers = answer_or_refusal(holder, call_list)
        told.append(len(numbers))
        told.extend(numbers)
    return told
