"""The calls on one object, which stand one behind another in one list."""

from mailmoves.holder import Holder

TAKE = 0
MORE = 1
TEXT = 2
SIZES = 3


class UnknownCall(Exception):
    """A call's number is none of those above."""


class CallList:
    """A list of calls, gone through number by number and row by row."""

    def __init__(self, numbers):
        self.numbers = numbers
        self.place = 0

    def at_end(self):
        return self.place >= len(self.numbers)

    def step(self):
        number = self.numbers[self.place]
        self.place += 1
        return number

    def row(self):
        size = self.step()
        row = self.numbers[self.place:self.place + size]
        self.place += size
        return row


def answer(holder, calls):
    number = calls.step()
    if number == TAKE:
        return holder.take(calls.row())
    if number == MORE:
        return holder.more(calls.row())
    if number == TEXT:
        return holder.text()
    if number == SIZES:
        return holder.sizes()
    raise UnknownCall()


def answers(calls):
    """What a new object answers to these calls: of each how many numbers, then they."""
    holder = Holder()
    call_list = CallList(calls)
    told = []
    while not call_list.at_end():
        numbers = answer(holder, call_list)
        told.append(len(numbers))
        told.extend(numbers)
    return told
