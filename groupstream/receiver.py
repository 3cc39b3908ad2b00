"""The way in: a line of calls as one list of whole numbers, and their answers as another."""

from groupstream.cutting import cut
from groupstream.limits import WAIT_MOST
from groupstream.stream import Receiver

CUT = 0
LAY = 1
TAKE = 2
NEXT = 3
JUMP = 4
MISSING = 5


def answers(calls):
    line = Line()
    told = []
    place = 0
    while place < len(calls):
        end = place + call_size(calls, place)
        answer = line.answer(calls[place:end])
        told.append(len(answer))
        told.extend(answer)
        place = end
    return told


def call_size(calls, place):
    if calls[place] == CUT:
        return 6 + calls[place + 5]
    if calls[place] == TAKE:
        return 3 + calls[place + 2]
    if calls[place] == NEXT:
        return 3
    return 2


class Line:
    def __init__(self):
        # None until lay has answered 0.
        self.receiver = None

    def answer(self, call):
        if call[0] == CUT:
            return cut(call[1], call[2], call[3], call[4], call[6:])
        if call[0] == LAY:
            return self.lay(call[1])
        if self.receiver is None:
            return [-9]
        if call[0] == TAKE:
            return [self.receiver.take(call[1], call[3:])]
        if call[0] == NEXT:
            return self.receiver.hand_on(call[1], call[2])
        if call[0] == JUMP:
            return [self.receiver.jump(call[1])]
        if call[0] == MISSING:
            return self.receiver.missing(call[1])
        # Nothing but clock is left.
        return self.receiver.clock_time(call[1])

    def lay(self, wait):
        if wait > WAIT_MOST:
            return [-1]
        self.receiver = Receiver(wait)
        return [0]
