"""A group as the receiver holds it."""

from groupstream.repair import data_rows


class HeldGroup:
    def __init__(self, shape, came):
        self.shape = shape
        # When its first packet came.
        self.came = came
        # Rows by the numbers of their packets, n at most.
        self.rows = {}
        # The group's bytes, once it is complete.
        self.content = []

    def still_wanted(self):
        return self.shape.n - len(self.rows)

    def complete(self):
        return self.still_wanted() == 0

    # What take answers of a packet of this group.
    def hold(self, packet):
        if not self.shape.agrees(packet.shape):
            return -3
        if self.complete() or packet.which in self.rows:
            return 1
        self.rows[packet.which] = packet.row
        if self.complete():
            self.content = self.restored()
        return 0

    def restored(self):
        filled = []
        for row in data_rows(self.shape.n, self.rows):
            filled.extend(row)
        return filled[:self.shape.size]
