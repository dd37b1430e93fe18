"""Why a call is refused; the object is then as it was."""


class TooMuch(Exception):
    """More bytes, characters, lines, words or letters than there may be."""


class NotWide(Exception):
    """A name's first number that is no wide character: its place, from 0 on."""

    def __init__(self, place):
        self.place = place


class TooFar(Exception):
    """A point or a day above the last one."""


class NoneToTell(Exception):
    """No line counts there, or nobody may be told where a letter goes."""
