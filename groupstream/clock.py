"""The points that right packets give of the sender's clock."""

from groupstream.limits import POINTS_HELD

SPAN = 131072


class Points:
    def __init__(self):
        # Of each number x // SPAN the point (x, d) that counts.
        self.kept = {}

    def take_point(self, x, d):
        number = x // SPAN
        if number not in self.kept or d < self.kept[number][1]:
            self.kept[number] = (x, d)
        # The numbers that come only add to those that were there: one that isn't among the greatest never will be.
        if len(self.kept) > POINTS_HELD:
            self.kept.pop(min(list(self.kept)))
