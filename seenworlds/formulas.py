"""The calls of one line, handed in and answered as one list of whole numbers."""

from seenworlds.frames import frame
from seenworlds.line import Line

BEGIN = 0
READ = 1
TEXT = 2
FRAME = 3
HOLDS = 4
DECIDE = 5
FOLLOWS = 6


# Walks the list that is handed in without changing it.
class Handed:
    def __init__(self, calls):
        self.calls = calls
        self.place = 0

    def is_done(self):
        return self.place == len(self.calls)

    def take_number(self):
        number = self.calls[self.place]
        self.place = self.place + 1
        return number

    def take_row(self):
        size = self.take_number()
        row = self.calls[self.place:self.place + size]
        self.place = self.place + size
        return row


def answer_call(line, handed):
    call = handed.take_number()
    if call == BEGIN:
        return line.begin()
    if call == READ:
        return line.read(handed.take_row())
    if call == TEXT:
        return line.text(handed.take_number())
    if call == FRAME:
        worlds = handed.take_number()
        return frame(worlds, handed.take_row())
    if call == HOLDS:
        worlds = handed.take_number()
        at = handed.take_number()
        return line.holds(worlds, at, handed.take_row())
    if call == DECIDE:
        return line.decide(handed.take_number())
    if call == FOLLOWS:
        conditions = handed.take_number()
        return line.follows(conditions, handed.take_row())
    raise ValueError("there is no such call")


def answers(calls):
    line = Line()
    handed = Handed(calls)
    given = []
    while not handed.is_done():
        answer = answer_call(line, handed)
        given.append(len(answer))
        given.extend(answer)
    return given
