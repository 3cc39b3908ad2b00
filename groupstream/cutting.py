"""The sender's side: a group's bytes cut into packets."""

from groupstream.limits import DATA_MOST, GROUP_END, REPAIR_MOST, ROW_MOST, TIME_END
from groupstream.packet import Packet, Shape, data_wanted, written
from groupstream.repair import repair_rows


# The call cut, with its answer as a list of numbers.
def cut(group, s, k, sent, octets):
    if group >= GROUP_END or k > REPAIR_MOST or sent >= TIME_END or not can_be_cut(len(octets), s):
        return [-1]
    data = data_cut(octets, s)
    shape = Shape(len(data), k, s, len(octets))
    rows = data + repair_rows(data, k)
    answer = [0, len(data), len(rows)]
    for which, row in enumerate(rows):
        packet = written(Packet(group, which, shape, sent, row))
        answer.append(len(packet))
        answer.extend(packet)
    return answer


def can_be_cut(size, s):
    if s < 1 or s > ROW_MOST or size == 0:
        return False
    return data_wanted(size, s) <= DATA_MOST


def data_cut(octets, s):
    count = data_wanted(len(octets), s)
    filled = octets + [0] * (count * s - len(octets))
    return [filled[i * s:i * s + s] for i in range(count)]
