"""Recordings of a small game: the calls about them, read from one list of numbers and answered by one."""

from playedagain.two_recordings import Line

BEGINS = 0
PRESS = 1
HOLD = 2
SEEK = 3
CUT = 4
PUT_BY = 5
SWAP = 6
DIFFER = 7
KEPT = 8
SUM_AT = 9
KEYS = 10
SPOIL = 11


class Reader:
    """Reads the numbers of a list of calls, one behind another."""

    def __init__(self, numbers):
        self.numbers = numbers
        self.at = 0

    def has_more(self):
        """Whether there are numbers that are not read yet."""
        return self.at < len(self.numbers)

    def number(self):
        """The next number."""
        self.at += 1
        return self.numbers[self.at - 1]

    def row(self):
        """The next row, which has how many numbers it has before it."""
        begin = self.at + 1
        self.at = begin + self.numbers[self.at]
        return self.numbers[begin:self.at]


class UnknownCall(ValueError):
    """There is no call with this number."""


def answer_change(line, call, reader):
    """What the line answers to a call that may change a recording, or change what goes on."""
    if call == BEGINS:
        players = reader.number()
        return line.begins(players, reader.number())
    if call == PRESS:
        return line.press(reader.row())
    if call == HOLD:
        ticks = reader.number()
        return line.hold(ticks, reader.row())
    if call == CUT:
        return line.cut(reader.number())
    if call == PUT_BY:
        return line.put_by()
    if call == SWAP:
        return line.swap()
    if call == SPOIL:
        tick = reader.number()
        player = reader.number()
        return line.spoil(tick, player, reader.number())
    raise UnknownCall(f"no call has the number {call}")


def answer_next(line, reader):
    """What the line answers to the call that is read next."""
    call = reader.number()
    if call == SEEK:
        return line.seek(reader.number())
    if call == DIFFER:
        return line.differ()
    if call == KEPT:
        return line.kept()
    if call == SUM_AT:
        return line.sum_at(reader.number())
    if call == KEYS:
        tick = reader.number()
        return line.keys_behind(tick, reader.number())
    return answer_change(line, call, reader)


def answers(calls):
    """For each call, in order: how many numbers are answered, then these."""
    line = Line()
    reader = Reader(calls)
    numbers = []
    while reader.has_more():
        answer = answer_next(line, reader)
        numbers.append(len(answer))
        numbers.extend(answer)
    return numbers
