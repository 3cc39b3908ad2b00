"""The call clock: which points count, the line, the receiver's time of t, its refusals. Promise 5."""

import random
import unittest

from tests import helper
from tests.helper import clock, hand, jump, lay, one_packet, raw_packet, take, told

SPAN = 131072
END = 2 ** 50


def pointed(x, d):
    """A take that gives the point (x, d)."""
    return take(x + d, raw_packet(sent=x))


def behind(points, *times):
    """What clock answers of each of the times behind these points."""
    calls = [lay(10)] + [pointed(x, d) for x, d in points]
    return told(calls + [clock(t) for t in times])[len(calls):]


class Case(unittest.TestCase):
    def check(self, points, heights):
        """heights: by t how high the line is there, rounded down."""
        expected = [[0, t + height] for t, height in heights.items()]
        self.assertEqual(behind(points, *heights), expected)
        self.assertEqual([helper.clock_answer(points, t) for t in heights], expected)


class NoneAndOne(Case):
    def test_no_point(self):
        self.assertEqual(behind([], 0, 1, END - 1, END), [[-2], [-2], [-2], [-1]])

    def test_one_point_is_level(self):
        self.check([(5, 995)], {0: 995, 5: 995, 500: 995, SPAN * 9: 995, END - 1: 995})
        self.check([(SPAN * 9, 0)], {0: 0, END - 1: 0})
        self.check([(SPAN * 9, -400)], {400: -400, 401: -400, END - 1: -400})

    def test_ts_edge(self):
        self.assertEqual(behind([(5, 995)], END - 1, END, helper.GREATEST), [[0, END + 994], [-1], [-1]])


class Two(Case):
    def test_one_that_rises(self):
        self.check([(0, 100), (SPAN, 101)], {0: 100, 1: 100, SPAN - 1: 100, SPAN: 101, SPAN + 1: 101,
                                             2 * SPAN - 1: 101, 2 * SPAN: 102, END - 1: 100 + END // SPAN - 1})

    def test_one_that_falls(self):
        self.check([(0, 100), (SPAN, 99)], {0: 100, 1: 99, SPAN - 1: 99, SPAN: 99, SPAN + 1: 98, 2 * SPAN - 1: 98,
                                            2 * SPAN: 98, 2 * SPAN + 1: 97, END - 1: 100 - END // SPAN})

    def test_left_of_both(self):
        self.check([(SPAN, 100), (2 * SPAN, 101)], {0: 99, 1: 99, SPAN - 1: 99, SPAN: 100})
        self.check([(SPAN, 100), (2 * SPAN, 99)], {0: 101, 1: 100, SPAN - 1: 100, SPAN: 100, SPAN + 1: 99})

    def test_the_order_in_which_they_came_is_no_matter(self):
        self.check([(2 * SPAN, 101), (SPAN, 100)], {0: 99, SPAN: 100, 2 * SPAN: 101, 4 * SPAN: 103})
        self.check([(2 * SPAN, 99), (SPAN, 100)], {0: 101, SPAN: 100, 2 * SPAN: 99, 4 * SPAN: 97})

    def test_heights_below_0(self):
        self.check([(SPAN, -50), (2 * SPAN, -51)], {SPAN: -50, SPAN + 1: -51, 2 * SPAN: -51, 2 * SPAN + 1: -52})
        self.check([(SPAN, -51), (2 * SPAN, -50)], {SPAN - 1: -52, SPAN: -51, SPAN + 1: -51, 2 * SPAN: -50})

    def test_neighbours_make_a_steep_line(self):
        self.check([(SPAN - 1, 5), (SPAN, 9)], {SPAN - 2: 1, SPAN - 1: 5, SPAN: 9, SPAN + 1: 13})

    def test_the_greatest_numbers(self):
        # At SPAN - 1 it was 0, at SPAN END - 1: there is no bound to what such a line tells.
        points = [(SPAN - 1, 1 - SPAN), (SPAN, END - 1 - SPAN)]
        self.assertEqual(behind(points, SPAN - 2, SPAN - 1, SPAN, END - 1),
                         [[-3], [0, 0], [0, END - 1], [0, (END - 1) * (END - SPAN)]])
        points = [(0, END - 1), (END - 1, 1 - END)]
        self.assertEqual(behind(points, 0, 1, END - 2, END - 1), [[0, END - 1], [0, END - 2], [0, 1], [0, 0]])


class Below0(Case):
    def test_one_point(self):
        self.assertEqual(behind([(1000, -400)], 0, 399, 400, 401), [[-3], [-3], [0, 0], [0, 1]])

    def test_a_part_of_one_below_0_is_below_0(self):
        # The receiver's time is 1 at SPAN and 3 at twice that: 0 at half of it, -2 / SPAN one before.
        points = [(SPAN, 1 - SPAN), (2 * SPAN, 3 - 2 * SPAN)]
        half = SPAN // 2
        self.assertEqual(behind(points, 0, half - 1, half, half + 1, SPAN - 1, SPAN),
                         [[-3], [-3], [0, 0], [0, 0], [0, 0], [0, 1]])

    def test_right_of_all(self):
        points = [(0, SPAN), (SPAN, -SPAN + 7)]
        zero_at = SPAN * SPAN // (SPAN - 7)
        self.assertEqual(behind(points, zero_at, zero_at + 1), [[0, 0], [-3]])


class Several(Case):
    def test_points_above_the_line(self):
        self.check([(0, 100), (SPAN, 500), (2 * SPAN, 101), (3 * SPAN, 105)],
                   {0: 100, SPAN: 100, 2 * SPAN: 101, 3 * SPAN: 101, 4 * SPAN: 102})
        self.check([(0, 100), (SPAN, 101), (2 * SPAN, 100)], {0: 100, SPAN: 100, 2 * SPAN: 100, 9 * SPAN: 100})

    def test_a_point_just_above_and_just_below(self):
        for middle, height in ((11, 20), (10, 20), (9, 18)):
            self.check([(0, 0), (2 * SPAN, middle), (4 * SPAN, 20)], {0: 0, 4 * SPAN: height})

    def test_several_on_one_line(self):
        points = [(number * SPAN, 10 * number) for number in range(7)]
        heights = {number * SPAN: 10 * number for number in range(12)}
        self.check(points, heights)
        self.check(points[::-1], heights)
        self.check(points + [(number * SPAN, 10 * number + 1) for number in range(7)], heights)
        self.check([(number * SPAN + number, 500 - 3 * number) for number in range(9)],
                   {number * SPAN + number: 500 - 3 * number for number in range(12)})

    def test_several_on_one_line_and_corners_beside_it(self):
        points = [(0, 90)] + [(number * SPAN, 10) for number in range(1, 6)] + [(6 * SPAN, 90)]
        self.check(points, {0: 10, 3 * SPAN: 10, 9 * SPAN: 10})

    def test_the_edge_at_the_middle_and_no_other(self):
        # Slopes -8, -4, 1, 7 and 9 of one SPAN: the third goes over the middle.
        points = [(0, 100), (SPAN, 92), (2 * SPAN, 88), (3 * SPAN, 89), (4 * SPAN, 96), (5 * SPAN, 105)]
        self.check(points, {0: 86, 2 * SPAN: 88, 3 * SPAN: 89, 4 * SPAN: 90, 7 * SPAN: 93})

    def test_the_middle_is_between_the_xs_and_not_the_points(self):
        points = [(0, 100), (SPAN, 90), (2 * SPAN, 89), (3 * SPAN, 95), (100 * SPAN, 1065)]
        self.check(points, {3 * SPAN: 95, 100 * SPAN: 1065, 4 * SPAN: 105, 0: 65})

    def test_least_and_greatest_x_may_lie_above_the_line_and_still_count(self):
        # Without the first point the middle would lie right of 4 * SPAN, without the last left of 3 * SPAN.
        points = [(0, 900), (3 * SPAN, 50), (4 * SPAN, 40), (7 * SPAN, 43)]
        self.check(points, {3 * SPAN: 50, 4 * SPAN: 40, 5 * SPAN: 30, 7 * SPAN: 10})


class TheMiddle(Case):
    def test_right_at_a_point(self):
        points = [(0, SPAN), (SPAN, 0), (2 * SPAN, SPAN)]
        self.check(points, {0: SPAN, SPAN: 0, 2 * SPAN: -SPAN, SPAN // 2: SPAN // 2})
        points = [(SPAN + 7, 50), (3 * SPAN + 7, 20), (5 * SPAN + 7, 25)]
        self.check(points, {SPAN + 7: 50, 3 * SPAN + 7: 20, 5 * SPAN + 7: -10})

    def test_a_half_right_of_a_point(self):
        points = [(0, SPAN), (SPAN, 0), (2 * SPAN + 1, SPAN + 1)]
        self.check(points, {SPAN: 0, 2 * SPAN: SPAN, SPAN // 2: -(SPAN // 2)})

    def test_a_half_left_of_a_point(self):
        points = [(0, SPAN + 1), (SPAN + 1, 0), (2 * SPAN + 1, SPAN)]
        self.check(points, {SPAN + 1: 0, SPAN: 1, 2 * SPAN: 1 - SPAN})

    def test_one_right_and_one_left_of_a_point(self):
        self.check([(0, SPAN), (SPAN, 0), (2 * SPAN + 2, SPAN + 2)], {SPAN: 0, 2 * SPAN: SPAN})
        self.check([(0, SPAN + 1), (SPAN + 1, 0), (2 * SPAN, SPAN - 1)], {SPAN + 1: 0, 2 * SPAN: 1 - SPAN})

    def test_right_at_a_point_above_the_line(self):
        self.check([(0, 0), (SPAN, 100), (2 * SPAN, 2)], {0: 0, SPAN: 1, 2 * SPAN: 2})

    def test_right_at_a_point_on_a_straight_line(self):
        self.check([(0, 0), (SPAN, 1), (2 * SPAN, 2)], {0: 0, SPAN: 1, 9 * SPAN: 9})


class OneNumber(Case):
    def test_the_lesser_d_later(self):
        self.check([(10, 50), (20, 49)], {0: 49, 10: 49, SPAN: 49})
        self.check([(10, 50), (20, 49), (SPAN + 20, 49 + SPAN)], {20: 49, 10: 39, SPAN + 20: 49 + SPAN})
        self.check([(20, 50), (10, 49), (SPAN + 10, 49 + SPAN)], {20: 59, 10: 49})

    def test_the_same_d_later(self):
        self.check([(10, 50), (20, 50), (SPAN + 10, 50 + SPAN)], {10: 50, 20: 60})
        self.check([(20, 50), (10, 50), (SPAN + 20, 50 + SPAN)], {10: 40, 20: 50})

    def test_a_greater_d_later(self):
        self.check([(10, 50), (20, 51)], {0: 50})
        self.check([(10, 50), (20, 51), (SPAN + 10, 50 + SPAN)], {10: 50, 20: 60})

    def test_where_a_number_ends(self):
        self.check([(0, 9), (SPAN - 1, 5)], {0: 5, SPAN - 1: 5, 9 * SPAN: 5})
        self.check([(SPAN, 9), (2 * SPAN - 1, 5)], {SPAN: 5, 2 * SPAN: 5})
        self.check([(SPAN - 1, 5), (SPAN, 9)], {SPAN + 1: 13})
        self.check([(SPAN - 1, 9), (SPAN, 5)], {SPAN + 1: 1})
        self.check([(END - SPAN - 1, 3), (END - SPAN, 3)], {END - 1: 3})

    def test_one_that_came_later_makes_another_line(self):
        first = [(0, 100), (SPAN, 100)]
        calls = [lay(10), pointed(*first[0]), clock(0), pointed(*first[1]), clock(3 * SPAN), pointed(SPAN, 90),
                 clock(3 * SPAN), pointed(0, 90), clock(3 * SPAN)]
        self.assertEqual(told(calls)[2::2], [[0, 100], [0, 3 * SPAN + 100], [0, 3 * SPAN + 70], [0, 3 * SPAN + 90]])


class SixtyFour(Case):
    def level(self, numbers, d=1000):
        return [(number * SPAN, d) for number in numbers]

    def test_the_64_greatest_in_rising_order(self):
        lowest = [(0, 0)]
        # With 64 numbers the lowest is counted, and draws the line down to it; with 65 it isn't.
        self.check(lowest + self.level(range(1, 64)), {0: 0, 63 * SPAN: 1000})
        self.check(lowest + self.level(range(1, 65)), {0: 1000, 63 * SPAN: 1000})
        self.check(lowest + self.level(range(1, 66)), {0: 1000, 63 * SPAN: 1000})

    def test_the_64_greatest_in_falling_order(self):
        self.check(self.level(range(63, 0, -1)) + [(0, 0)], {0: 0, 63 * SPAN: 1000})
        self.check(self.level(range(64, 0, -1)) + [(0, 0)], {0: 1000, 63 * SPAN: 1000})
        self.check(self.level(range(66, 0, -1)) + [(0, 0), (SPAN, 0), (2 * SPAN, 0)], {0: 1000, 63 * SPAN: 1000})

    def test_the_64_greatest_in_mixed_order(self):
        source = random.Random(21)
        for _ in range(10):
            points = self.level(range(6, 70)) + [(number * SPAN, 0) for number in range(6)]
            source.shuffle(points)
            self.check(points, {0: 1000, 63 * SPAN: 1000})

    def test_one_that_fell_out_does_not_come_back(self):
        points = self.level(range(65)) + [(0, 0), (5, 0)]
        self.check(points, {0: 1000, 63 * SPAN: 1000})

    def test_the_least_of_the_64_still_takes_a_lesser_d(self):
        self.check(self.level(range(65)) + [(SPAN, 0)], {SPAN: 0, 64 * SPAN: 1000})

    def test_what_fell_out_moves_the_middle(self):
        # Numbers 0 to 63 have their middle at 31.5; when 127 comes too and 0 falls out, it's at 64.
        points = [(number * SPAN, abs(number - 50) * 10) for number in range(64)]
        self.check(points, {31 * SPAN: 190, 32 * SPAN: 180, 60 * SPAN: -100})
        self.check(points + [(127 * SPAN, 900)], {63 * SPAN: 130, 127 * SPAN: 900})

    def test_the_same_number_twice_is_one_number(self):
        points = [(0, 0)] + self.level(range(1, 64)) + [(number * SPAN + 9, 2000) for number in range(1, 64)]
        self.check(points, {0: 0, 63 * SPAN: 1000})


class WhichPackets(Case):
    """A packet's point is told by one level line: wherever it counts, it lies lower than the first."""

    def check_packet(self, begun, call, answer, counts):
        calls = [lay(10), take(1000, raw_packet(n=2, size=2, sent=100))] + begun + [clock(0), call, clock(0)]
        self.assertEqual(told(calls)[-3:], [[0, 900], answer, [0, 400] if counts else [0, 900]])

    def test_held(self):
        self.check_packet([], take(500, raw_packet(n=2, size=2, sent=100, which=1)), [0], True)
        self.check_packet([], take(500, raw_packet(group=9, sent=100)), [0], True)

    def test_held_already(self):
        self.check_packet([], take(500, raw_packet(n=2, size=2, sent=100)), [1], True)

    def test_complete(self):
        self.check_packet([take(1000, raw_packet(group=1, k=1, sent=100))],
                          take(500, raw_packet(group=1, k=1, which=1, sent=100)), [1], True)

    def test_before_next(self):
        self.check_packet([hand(1010)], take(500, raw_packet(sent=100)), [2], True)
        self.check_packet([jump(7)], take(500, raw_packet(group=6, sent=100)), [2], True)

    def test_far(self):
        self.check_packet([], take(500, raw_packet(group=16, sent=100)), [3], True)
        self.check_packet([], take(500, raw_packet(group=2 ** 32 - 1, sent=100)), [3], True)

    def test_says_otherwise(self):
        self.check_packet([], take(500, raw_packet(n=2, size=2, k=1, sent=100)), [-3], True)

    def test_now_too_late(self):
        packet = raw_packet(n=2, size=2, sent=100, which=1)
        self.check_packet([], take(END, packet), [-1], False)
        # A point of such a time, if it were taken, would be the only one.
        self.assertEqual(told([lay(10), take(END, packet), clock(0), take(END - 1, packet), clock(0)]),
                         [[0], [-1], [-2], [0], [0, END - 101]])

    def test_no_packet(self):
        packet = raw_packet(n=2, size=2, sent=100, which=1)
        for at in range(len(packet)):
            other = list(packet)
            other[at] ^= 1
            self.check_packet([], take(500, other), [-2], False)
        self.check_packet([], take(500, raw_packet(n=2, size=3, sent=100)), [-2], False)
        self.check_packet([], take(500, []), [-2], False)
        self.assertEqual(told([lay(10), take(500, packet[:-1]), clock(0)]), [[0], [-2], [-2]])

    def test_before_a_receiver(self):
        packet = raw_packet(sent=100)
        self.assertEqual(told([take(500, packet), lay(10), clock(0), take(600, packet), clock(0)]),
                         [[-9], [0], [-2], [0], [0, 500]])

    def test_what_a_packet_says_in_sent(self):
        self.assertEqual(told([lay(10), take(END - 1, one_packet(0, sent=END - 1)), clock(0)])[-1], [0, 0])
        self.assertEqual(told([lay(10), take(0, one_packet(0, sent=END - 1)), clock(END - 1), clock(END - 2)])[-2:],
                         [[0, 0], [-3]])


class LayAnew(Case):
    def test_it_leaves_no_point(self):
        calls = [lay(10), pointed(5, 995), pointed(SPAN, 7), clock(0), lay(10), clock(0), clock(END), pointed(9, 50),
                 clock(0)]
        self.assertEqual(told(calls)[3:], [[0, 995], [0], [-2], [-1], [0], [0, 50]])

    def test_a_refused_lay_leaves_them(self):
        self.assertEqual(told([lay(10), pointed(5, 995), lay(2 ** 40 + 1), clock(0)])[2:], [[-1], [0, 995]])

    def test_jump_and_next_leave_them(self):
        self.assertEqual(told([lay(10), pointed(5, 995), jump(3), clock(0), hand(END - 1), clock(0), jump(2 ** 32),
                               clock(0)])[3::2], [[0, 995]] * 3)


class AskingChangesNothing(Case):
    def test_between_other_calls(self):
        calls = [lay(10), take(5, raw_packet(n=2, size=2)), pointed(SPAN, -99), take(6, one_packet(20)), hand(14),
                 hand(15), take(6, one_packet(1)), hand(15), hand(16), clock(7 * SPAN)]
        mixed = []
        for call in calls:
            mixed += [call, clock(0), clock(END), clock(SPAN), clock(END - 1)]
        self.assertEqual(told(mixed)[::5], told(calls))


def some_points(source):
    """Points by chance, of one of several forms; every now is from 0 to END - 1."""
    count = source.choice((2, 3, 5, 20, 63, 64, 65, 80, 110))
    numbers = source.choice((count, count, 2 * count, 2 ** 32))
    # 2 ** 33 numbers are all there are.
    base = source.choice((0, 2 ** 20, 2 ** 49)) if numbers < 2 ** 32 else 0
    xs = [base + source.randrange(numbers) * SPAN + source.choice((0, 5, SPAN - 1, source.randrange(SPAN)))
          for _ in range(count)]
    order = source.choice(("rising", "falling", "mixed"))
    if order != "mixed":
        xs = sorted(xs, reverse=order == "falling")
    middle = (min(xs) + max(xs)) // 2
    bend = source.choice((0, 0, 1, 3, -1))
    slope = source.choice((-2, -1, 0, 1, 3))
    noise = source.choice((1, 3, 1000, 2 ** 18))
    points = []
    for x in xs:
        from_middle = (x - middle) // SPAN
        d = bend * min(from_middle ** 2, 2 ** 40) + slope * from_middle + source.randrange(noise)
        now = min(max(x + d, 0), END - 1)
        points.append((x, now - x))
    return points


class ByChance(unittest.TestCase):
    def some_times(self, source, came):
        points = helper.counting(came)
        low, high = min(points)[0], max(points)[0]
        # Each point's own x, those around it and times on both sides of all points.
        times = [source.choice(points)[0] + source.choice((-1, 0, 1)) for _ in range(4)]
        times += [source.randint(low, high), source.randint(0, low), source.randrange(high, END)]
        times += [0, END - 1, source.choice((END, END + 1, helper.GREATEST))]
        return [max(0, t) for t in times]

    def test_against_all_lines_that_could_be(self):
        seen = {}
        for seed in range(250):
            source = random.Random(seed)
            points = some_points(source)
            times = self.some_times(source, points)
            found = behind(points, *times)
            self.assertEqual(found, [helper.clock_answer(points, t) for t in times], f"seed {seed}")
            for answer in found:
                seen[answer[0]] = seen.get(answer[0], 0) + 1
        for kind in (0, -1, -3):
            self.assertGreater(seen.get(kind, 0), 50, kind)

    def test_while_they_come(self):
        for seed in range(40):
            source = random.Random(seed)
            points = some_points(source)
            calls = [lay(10)]
            expected = [[0]]
            for place, point in enumerate(points):
                calls.append(pointed(*point))
                expected.append([1] if place else [0])
                if source.random() < 0.3:
                    t = source.choice(self.some_times(source, points[:place + 1]))
                    calls.append(clock(t))
                    expected.append(helper.clock_answer(points[:place + 1], t))
            self.assertEqual(told(calls), expected, f"seed {seed}")

    def test_no_point_below_and_two_on_it(self):
        # Asked of the answers alone: at each point that counts the line is as high or lower, at two or more as high.
        for seed in range(150):
            points = some_points(random.Random(seed))
            counting = helper.counting(points)
            found = behind(points, *[x for x, d in counting])
            on_it = 0
            for (x, d), answer in zip(counting, found):
                if answer[0] == 0:
                    self.assertLessEqual(answer[1], x + d, f"seed {seed}")
                on_it += answer == [0, x + d]
            self.assertGreaterEqual(on_it, min(2, len(counting)), f"seed {seed}")

    def test_the_order_is_no_matter_but_within_one_number(self):
        for seed in range(60):
            source = random.Random(seed)
            points = list({x // SPAN: (x, d) for x, d in some_points(source)}.values())
            other = list(points)
            source.shuffle(other)
            times = self.some_times(source, points)
            self.assertEqual(behind(points, *times), behind(other, *times), f"seed {seed}")


if __name__ == "__main__":
    unittest.main()
