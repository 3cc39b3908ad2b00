"""What the tests share: calls as lists of numbers, answers one by one, packets made without the
package, and a second receiver, written from the document in another way, to hold the first against.
"""

import math
from fractions import Fraction

from groupstream.receiver import answers

GROUP_END = 2 ** 32
TIME_END = 2 ** 50
GREATEST = 2 ** 53 - 1
FAR_OFF = 16


# Calls

def cut(group, s, k, sent, octets):
    return [0, group, s, k, sent, len(octets)] + list(octets)


def lay(wait):
    return [1, wait]


def take(now, packet):
    return [2, now, len(packet)] + list(packet)


def hand(now, room=2000):
    return [3, now, room]


def jump(group):
    return [4, group]


def missing(group):
    return [5, group]


def clock(t):
    return [6, t]


def told(calls):
    """The answers to a list of calls, one list of numbers for each."""
    assert 1 <= len(calls) <= 200, len(calls)
    line = [number for call in calls for number in call]
    assert len(line) <= 19000, len(line)
    flat = answers(line)
    found = []
    place = 0
    while place < len(flat):
        found.append(flat[place + 1:place + 1 + flat[place]])
        place += 1 + flat[place]
    assert place == len(flat)
    assert len(found) == len(calls)
    return found


def last(calls):
    return told(calls)[-1]


# Packets, by the document's table and another way to the CRC and the field

def low_first(number, count):
    return list(number.to_bytes(count, "little"))


def turned(number, bits):
    return int(format(number, f"0{bits}b")[::-1], 2)


def slow_crc(octets):
    """The CRC with the polynomial as it is, highest bit first: each byte and the end are turned."""
    state = 0xFFFFFFFF
    for octet in octets:
        state ^= turned(octet, 8) << 24
        for _ in range(8):
            state <<= 1
            if state >> 32:
                state ^= 0x11EDC6F41
    return turned(state, 32) ^ 0xFFFFFFFF


def crc_table():
    return [slow_crc([octet]) ^ slow_crc([0]) for octet in range(256)]


CRC_TABLE = crc_table()


def crc(octets):
    state = 0xFFFFFFFF
    for octet in octets:
        state = CRC_TABLE[(state ^ octet) & 255] ^ (state >> 8)
    return state ^ 0xFFFFFFFF


def powers_of_three():
    powers = [1]
    while len(powers) < 255:
        value = powers[-1] ^ (powers[-1] << 1)
        powers.append(value ^ 0x11B if value > 255 else value)
    return powers


POWERS = powers_of_three()
LOGARITHMS = {value: place for place, value in enumerate(POWERS)}


def times(left, right):
    if left == 0 or right == 0:
        return 0
    return POWERS[(LOGARITHMS[left] + LOGARITHMS[right]) % 255]


def weight(j, i):
    return POWERS[-LOGARITHMS[(128 + j) ^ i] % 255]


def raw_packet(group=0, which=0, n=1, k=0, size=1, s=1, sent=0, row=None,
               mark=(76, 119, 110, 49), zero=0, zeros=(0, 0)):
    """A packet that may say anything at all, with the CRC that's right for it."""
    octets = list(mark) + low_first(group, 4) + [which, n, k, zero]
    octets += low_first(size, 4) + low_first(s, 2) + list(zeros) + low_first(sent, 8)
    octets += [0] * s if row is None else list(row)
    return octets + low_first(crc(octets), 4)


def packets(octets, group=0, s=8, k=1, sent=0, fill=0):
    """A group's packets, data first; fill: what the last data packet is filled up with."""
    n = -(-len(octets) // s)
    filled = list(octets) + [fill] * (n * s - len(octets))
    rows = [filled[at:at + s] for at in range(0, n * s, s)]
    for j in range(k):
        row = [0] * s
        for i in range(n):
            row = [a ^ times(weight(j, i), b) for a, b in zip(row, rows[i])]
        rows.append(row)
    return [raw_packet(group, which, n, k, len(octets), s, sent, row) for which, row in enumerate(rows)]


def part(stream, time, octets):
    return [stream] + low_first(time, 8) + low_first(len(octets), 4) + list(octets)


def one_packet(group, octets=None, sent=0):
    """The only packet of a group that one packet holds: by default one part with no bytes."""
    octets = part(1, 2, []) if octets is None else octets
    return packets(octets, group=group, s=max(1, len(octets)), k=0, sent=sent)[0]


# The clock, by trying all that could be the line

def counting(came):
    """Of all points (x, d) in the order in which they came those that count."""
    by_number = {}
    for x, d in came:
        by_number.setdefault(x // 131072, []).append((x, d))
    greatest = sorted(by_number, reverse=True)[:64]
    return [min(by_number[number], key=lambda point: point[1]) for number in greatest]


def above_or_on(points, p, q):
    """Whether none of the points lies below the line through p and q, p left of q."""
    rise, run = q[1] - p[1], q[0] - p[0]
    return all((d - p[1]) * run >= rise * (x - p[0]) for x, d in points)


def clock_line(came):
    """Slope and height at 0 of the line; None without a point."""
    points = counting(came)
    if not points:
        return None
    if len(points) == 1:
        return Fraction(0), Fraction(points[0][1])
    ends = min(points)[0] + max(points)[0]
    lefts = [point for point in points if 2 * point[0] < ends]
    rights = [point for point in points if 2 * point[0] >= ends]
    lines = set()
    for p in lefts:
        for q in rights:
            if above_or_on(points, p, q):
                slope = Fraction(q[1] - p[1], q[0] - p[0])
                lines.add((slope, p[1] - slope * p[0]))
    assert len(lines) == 1, lines
    return lines.pop()


def clock_answer(came, t):
    if t >= TIME_END:
        return [-1]
    line = clock_line(came)
    if line is None:
        return [-2]
    exact = t + line[0] * t + line[1]
    return [0, math.floor(exact)] if exact >= 0 else [-3]


# A second receiver: it keeps all that came and works out of it anew whatever is asked

class Model:
    def __init__(self, truth):
        # truth: by group and shape (n, k, s, size) the group's bytes
        self.truth = truth
        self.laid = False

    def lay(self, wait):
        if wait > 2 ** 40:
            return [-1]
        self.laid = True
        self.wait = wait
        self.due = 0
        self.place = 0
        self.stored = []
        self.beyond = []
        self.points = []
        return [0]

    def of_group(self, group):
        return [entry for entry in self.stored if entry["group"] == group]

    def complete(self, group):
        entries = self.of_group(group)
        return bool(entries) and len(entries) == entries[0]["shape"][0]

    def take(self, now, packet):
        """packet: None for what is no packet, else a dict of group, which, shape, sent."""
        if not self.laid:
            return [-9]
        if now >= TIME_END:
            return [-1]
        if packet is None:
            return [-2]
        entry = dict(packet, now=now)
        self.points.append((entry["sent"], now - entry["sent"]))
        if entry["group"] < self.due:
            return [2]
        if entry["group"] >= self.due + FAR_OFF:
            self.beyond.append(entry)
            return [3]
        entries = self.of_group(entry["group"])
        if any(other["shape"] != entry["shape"] for other in entries):
            return [-3]
        if self.complete(entry["group"]) or any(other["which"] == entry["which"] for other in entries):
            return [1]
        self.stored.append(entry)
        return [0]

    def go_on(self):
        self.go_to(self.due + 1)

    def go_to(self, group):
        self.due = group
        self.place = 0
        if all(entry["group"] < self.due for entry in self.beyond):
            self.beyond = []

    def due_at(self):
        times_come = [self.of_group(group)[0]["now"] for group in range(self.due, self.due + FAR_OFF)
                      if self.of_group(group)]
        if any(entry["group"] >= self.due for entry in self.beyond):
            times_come.append(self.beyond[0]["now"])
        return min(times_come) + self.wait if times_come else None

    def hand(self, now, room):
        if not self.laid:
            return [-9]
        if now >= TIME_END:
            return [-1]
        if self.complete(self.due):
            octets = self.truth[self.due, self.of_group(self.due)[0]["shape"]]
            if self.place == len(octets):
                self.go_on()
        group, place = self.due, self.place
        if not self.complete(group):
            due_at = self.due_at()
            if due_at is None or due_at > now:
                return [0]
            self.go_on()
            return [2, group]
        octets = self.truth[group, self.of_group(group)[0]["shape"]]
        rest = bytes(octets[place:])
        size = int.from_bytes(rest[9:13], "little")
        if len(rest) < 13 or len(rest) - 13 < size:
            self.go_on()
            return [3, group, place, len(octets)]
        head = [group, rest[0], int.from_bytes(rest[1:9], "little"), size]
        if size > room:
            return [-7] + head
        self.place += 13 + size
        return [1] + head + list(rest[13:13 + size])

    def jump(self, group):
        if not self.laid:
            return [-9]
        if group <= self.due or group > GROUP_END:
            return [-1]
        self.go_to(group)
        return [0]

    def missing(self, group):
        if not self.laid:
            return [-9]
        entries = self.of_group(group)
        if group < self.due or not entries:
            return [-2]
        held = sorted(entry["which"] for entry in entries)
        return [0, entries[0]["shape"][0] - len(held), len(held)] + held

    def clock(self, t):
        return clock_answer(self.points, t) if self.laid else [-9]
