"""The points that right packets give of the sender's clock, and the line beneath them."""

from groupstream.limits import POINTS_HELD

SPAN = 131072


# A point is a tuple (x, d).
class Points:
    def __init__(self):
        # Of each number x // SPAN the point that counts.
        self.kept = {}

    def take_point(self, x, d):
        number = x // SPAN
        if number not in self.kept or d < self.kept[number][1]:
            self.kept[number] = (x, d)
        # The numbers that come only add to those that were there: one that isn't among the greatest never will be.
        if len(self.kept) > POINTS_HELD:
            self.kept.pop(min(list(self.kept)))

    # The receiver's time of t; None if there's no point.
    def receiver_time(self, t):
        if len(self.kept) == 0:
            return None
        # Rising numbers are rising x too: each number has one point here.
        return t + line_height(rising_points(self.kept), t)


def rising_points(kept):
    return [kept[number] for number in sorted(kept)]


# The line's height at t, rounded down; points: those that count, with rising x.
def line_height(points, t):
    if len(points) == 1:
        return points[0][1]
    corners = lower_corners(points)
    right = right_of_middle(corners)
    p = corners[right - 1]
    q = corners[right]
    return p[1] + (q[1] - p[1]) * (t - p[0]) // (q[0] - p[0])


# The points that bend the lower edge of them all, with the first and the last: no point lies below a line through
# two that follow one another here.
def lower_corners(points):
    corners = []
    for point in points:
        while len(corners) > 1 and not lies_below(corners[-2], corners[-1], point):
            corners.pop()
        corners.append(point)
    return corners


# Whether point lies below the line from left to right; its x is between theirs.
def lies_below(left, point, right):
    return (point[1] - left[1]) * (right[0] - left[0]) < (right[1] - left[1]) * (point[0] - left[0])


# The place of the first corner that isn't left of the middle between the first and the last, of two corners at least.
def right_of_middle(corners):
    # Twice the middle, because the middle itself may be no whole number.
    middle_twice = corners[0][0] + corners[-1][0]
    place = 1
    while 2 * corners[place][0] < middle_twice:
        place += 1
    return place
