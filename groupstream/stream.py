"""The receiver: what it holds, and what take, next, jump, missing and clock do with it."""

from groupstream.clock import Points
from groupstream.held import HeldGroup
from groupstream.limits import GROUP_END, GROUPS_HELD, TIME_END
from groupstream.packet import read_packet
from groupstream.parts import part_at


class Receiver:
    def __init__(self, wait):
        self.wait = wait
        # The document's next: the number of the group that's due; and how many of its bytes are handed on.
        self.due = 0
        self.place = 0
        # Held groups by number. None is before due: going on lets them go.
        self.groups = {}
        # far_number is None while far is nothing; it is never below due.
        self.far_number = None
        self.far_time = 0
        self.points = Points()

    # The call take.
    def take(self, now, octets):
        if now >= TIME_END:
            return -1
        packet = read_packet(octets)
        if packet is None:
            return -2
        self.points.take_point(packet.sent, now - packet.sent)
        if packet.group < self.due:
            return 2
        if packet.group >= self.due + GROUPS_HELD:
            self.note_far(packet.group, now)
            return 3
        if packet.group not in self.groups:
            self.groups[packet.group] = HeldGroup(packet.shape, now)
        return self.groups[packet.group].hold(packet)

    def note_far(self, number, now):
        if self.far_number is None:
            self.far_number = number
            self.far_time = now
        else:
            self.far_number = max(self.far_number, number)

    # The call next, with its answer as a list of numbers.
    def hand_on(self, now, room):
        if now >= TIME_END:
            return [-1]
        while self.due_complete() and self.place == self.groups[self.due].shape.size:
            self.go_one_on()
        if self.due_complete():
            return self.hand_part(room)
        return self.tell_gap(now)

    def due_complete(self):
        return self.due in self.groups and self.groups[self.due].complete()

    def hand_part(self, room):
        number = self.due
        place = self.place
        octets = self.groups[number].content
        part = part_at(octets, place)
        if part is None:
            self.go_one_on()
            return [3, number, place, len(octets)]
        count = len(part.content)
        if count > room:
            return [-7, number, part.stream, part.time, count]
        self.place = part.end
        return [1, number, part.stream, part.time, count] + part.content

    def tell_gap(self, now):
        number = self.due
        if not self.is_due(now):
            return [0]
        self.go_one_on()
        return [2, number]

    # Whether the due group's time has come. All that is held is of it or of later ones, and so is far.
    def is_due(self, now):
        times = [group.came for group in self.groups.values()]
        if self.far_number is not None:
            times.append(self.far_time)
        return len(times) > 0 and min(times) + self.wait <= now

    def go_one_on(self):
        self.go_on_to(self.due + 1)

    def go_on_to(self, number):
        for group in list(self.groups):
            if group < number:
                self.groups.pop(group)
        self.due = number
        self.place = 0
        if self.far_number is not None and self.far_number < number:
            self.far_number = None

    # The call jump.
    def jump(self, number):
        # One above the last group's number is allowed: there next is when that group has gone, too.
        if number <= self.due or number > GROUP_END:
            return -1
        self.go_on_to(number)
        return 0

    # The call missing, with its answer as a list of numbers.
    def missing(self, number):
        if number not in self.groups:
            return [-2]
        group = self.groups[number]
        return [0, group.still_wanted(), len(group.rows)] + sorted(group.rows)

    # The call clock, with its answer as a list of numbers.
    def clock_time(self, t):
        if t >= TIME_END:
            return [-1]
        found = self.points.receiver_time(t)
        if found is None:
            return [-2]
        if found < 0:
            return [-3]
        return [0, found]
