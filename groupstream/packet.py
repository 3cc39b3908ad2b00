"""Packets: how they are written as bytes, and which bytes are a packet."""

from groupstream.checksum import checksum
from groupstream.limits import DATA_MOST, REPAIR_MOST, ROW_MOST, TIME_END
from groupstream.lowfirst import number_at, octets_of

MARK = (76, 119, 110, 49)
HEAD_SIZE = 28
SUM_SIZE = 4


# What all packets of one group say alike.
class Shape:
    def __init__(self, n, k, s, size):
        self.n = n
        self.k = k
        self.s = s
        self.size = size

    def agrees(self, other):
        return self.n == other.n and self.k == other.k and self.s == other.s and self.size == other.size


class Packet:
    def __init__(self, group, which, shape, sent, row):
        self.group = group
        self.which = which
        self.shape = shape
        self.sent = sent
        self.row = row


def data_wanted(size, s):
    return (size + s - 1) // s


def written(packet):
    shape = packet.shape
    octets = list(MARK) + octets_of(packet.group, 4) + [packet.which, shape.n, shape.k, 0]
    octets = octets + octets_of(shape.size, 4) + octets_of(shape.s, 2) + [0, 0]
    octets = octets + octets_of(packet.sent, 8) + packet.row
    return octets + octets_of(checksum(octets), SUM_SIZE)


# None if the octets are no packet.
def read_packet(octets):
    if not right_length(octets) or not right_frame(octets):
        return None
    shape = Shape(octets[9], octets[10], number_at(octets, 16, 2), number_at(octets, 12, 4))
    packet = Packet(number_at(octets, 4, 4), octets[8], shape, number_at(octets, 20, 8),
                    octets[HEAD_SIZE:HEAD_SIZE + shape.s])
    if not right_shape(shape) or packet.which >= shape.n + shape.k or packet.sent >= TIME_END:
        return None
    return packet


def right_length(octets):
    # No packet's row is empty, so that what says s is there as soon as the shortest packet's bytes are.
    if len(octets) < HEAD_SIZE + 1 + SUM_SIZE:
        return False
    s = number_at(octets, 16, 2)
    return s <= ROW_MOST and len(octets) == HEAD_SIZE + s + SUM_SIZE


def right_frame(octets):
    end = len(octets) - SUM_SIZE
    if octets[:4] != list(MARK) or octets[11] != 0 or octets[18] != 0 or octets[19] != 0:
        return False
    return checksum(octets[:end]) == number_at(octets, end, SUM_SIZE)


def right_shape(shape):
    if shape.n < 1 or shape.n > DATA_MOST or shape.k > REPAIR_MOST:
        return False
    return shape.n == data_wanted(shape.size, shape.s)
