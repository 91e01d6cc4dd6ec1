"""The desk: the calls on one new loom, written in one list, and their answers in another."""

from knotloom.loom import Loom

BEGIN = 0
ROW = 1
UNPICK = 2
NOW = 3
TIED = 4
WRONG = 5
WOOL = 6
SAID = 7


class UnknownCall(ValueError):
    """A call's number that no call has."""


class CallReader:
    """The list of calls, read from its beginning, and how far it has been read."""

    def __init__(self, calls):
        self.calls = calls
        self.place = 0

    def has_more(self):
        """Whether anything is still to be read."""
        return self.place < len(self.calls)

    def take_number(self):
        """The next number."""
        number = self.calls[self.place]
        self.place += 1
        return number

    def take_numbers(self):
        """The next numbers, as many as the one before them says; a list of their own."""
        size = self.take_number()
        start = self.place
        self.place += size
        return self.calls[start:self.place]


def answer_next(loom, reader):
    """What the loom answers to the next call."""
    call = reader.take_number()
    if call == BEGIN:
        text = reader.take_numbers()
        shares = reader.take_numbers()
        return loom.begin(text, shares)
    if call == ROW:
        tries = reader.take_number()
        told = reader.take_numbers()
        return loom.row(tries, told)
    if call == UNPICK:
        return loom.unpick(reader.take_number())
    if call == NOW:
        return loom.now()
    if call == TIED:
        return loom.tied()
    if call == WRONG:
        return loom.wrong(reader.take_number())
    if call == WOOL:
        return loom.wool()
    if call == SAID:
        return loom.said(reader.take_number())
    raise UnknownCall(f"no call has the number {call}")


def answers(calls):
    """For each call, in order: how many numbers are answered, and these."""
    loom = Loom()
    reader = CallReader(calls)
    given = []
    while reader.has_more():
        answer = answer_next(loom, reader)
        given.append(len(answer))
        given.extend(answer)
    return given
