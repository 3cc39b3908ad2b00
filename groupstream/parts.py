"""The parts that a group's bytes are made of."""

from groupstream.lowfirst import number_at

PART_HEAD = 13


class Part:
    def __init__(self, stream, time, content, end):
        self.stream = stream
        self.time = time
        self.content = content
        self.end = end


# None if there are too few bytes for a part's head, or for what it says.
def part_at(octets, place):
    begin = place + PART_HEAD
    if begin > len(octets):
        return None
    end = begin + number_at(octets, place + 9, 4)
    if end > len(octets):
        return None
    return Part(octets[place], number_at(octets, place + 1, 8), octets[begin:end], end)
