"""The interface: one list of calls is handed in, one list of answers is given back."""

from mirrorwordsdesk.calls import CALLS, NotTaken, TooLong
from mirrorwordsdesk.words import Mirrors


class CallReader:
    def __init__(self, calls):
        self.calls = calls
        self.place = 0

    def at_end(self):
        return self.place == len(self.calls)

    def number(self):
        found = self.calls[self.place]
        self.place += 1
        return found

    def row(self):
        many = self.number()
        found = self.calls[self.place:self.place + many]
        self.place += many
        return found


# All of a call is read before anything is looked at: a refusal must not shift where the next begins.
def answer_next(mirrors, reader):
    shape = CALLS[reader.number()]
    numbers = [reader.number() for step in range(shape[0])]
    rows = [reader.row() for step in range(shape[1])]
    try:
        return [0] + shape[2](mirrors, numbers, rows)
    except NotTaken:
        return [-1]
    except TooLong:
        return [-2]


def answers(calls):
    reader = CallReader(calls)
    mirrors = Mirrors()
    told = []
    while not reader.at_end():
        answer = answer_next(mirrors, reader)
        told.append(len(answer))
        told.extend(answer)
    return told
