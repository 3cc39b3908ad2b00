"""The call next: parts, faults, gaps, -7, in order and each once."""

import unittest

from tests import helper
from tests.helper import cut, hand, last, lay, low_first, one_packet, packets, part, raw_packet, take, told


def taken(octets, group=0, now=5):
    size = len(octets)
    s = max(1, -(-size // 16))
    return [take(now, packet) for packet in packets(octets, group, s, 0)]


def after(octets, *more):
    """The answers to more, behind a group of these bytes."""
    begun = [lay(10)] + taken(octets)
    return told(begun + list(more))[len(begun):]


class TheExample(unittest.TestCase):
    def test_the_example(self):
        octets = part(7, 1, [65, 66])
        answer = last([cut(0, 8, 1, 5, octets)])
        rows = [answer[at + 1:at + 41] for at in (3, 44, 85)]
        calls = [lay(100), take(1000, rows[2]), take(1010, rows[1]), hand(1010, 100), hand(1010, 100),
                 take(2000, one_packet(2)), hand(2099, 100), hand(2100, 100)]
        self.assertEqual(told(calls), [[0], [0], [0], [1, 0, 7, 1, 2, 65, 66], [0], [0], [0], [2, 1]])


class Parts(unittest.TestCase):
    def test_several_in_one_group(self):
        octets = part(1, 10, [5, 6, 7]) + part(2, 20, []) + part(255, 2 ** 64 - 1, [255] * 9) + part(0, 0, [0])
        self.assertEqual(after(octets, *[hand(0)] * 6),
                         [[1, 0, 1, 10, 3, 5, 6, 7], [1, 0, 2, 20, 0], [1, 0, 255, 2 ** 64 - 1, 9] + [255] * 9,
                          [1, 0, 0, 0, 1, 0], [0], [0]])

    def test_parts_with_no_bytes(self):
        self.assertEqual(after(part(1, 2, []) * 3, hand(5, 0), hand(5, 0), hand(5, 0), hand(5, 0)),
                         [[1, 0, 1, 2, 0]] * 3 + [[0]])

    def test_groups_in_order_though_they_come_backwards(self):
        calls = [lay(10)]
        for group in (2, 1, 0):
            calls += taken(part(group, 9, [group]) + part(group, 8, []), group)
        calls += [hand(5)] * 7
        expected = []
        for group in range(3):
            expected += [[1, group, group, 9, 1, group], [1, group, group, 8, 0]]
        self.assertEqual(told(calls)[-7:], expected + [[0]])

    def test_a_complete_group_waits_for_nothing(self):
        self.assertEqual(last([lay(2 ** 40), take(1000, one_packet(0)), hand(0)]), [1, 0, 1, 2, 0])

    def test_a_group_begins_at_its_first_part(self):
        calls = [lay(10), take(5, one_packet(0, part(1, 1, [1]))), take(5, one_packet(1, part(2, 2, [2])))]
        self.assertEqual(told(calls + [hand(5)] * 3)[3:], [[1, 0, 1, 1, 1, 1], [1, 1, 2, 2, 1, 2], [0]])

    def test_the_largest_part(self):
        octets = part(1, 2, [at % 251 for at in range(1011)])
        self.assertEqual(after(octets, hand(5, 1011)), [[1, 0, 1, 2, 1011] + octets[13:]])


class Room(unittest.TestCase):
    def test_more_than_room_and_then_room_enough(self):
        octets = part(1, 2, [7, 8, 9]) + part(3, 4, [1])
        self.assertEqual(after(octets, hand(5, 2), hand(5, 0), hand(5, 2), hand(5, 3), hand(5, 0), hand(5, 1)),
                         [[-7, 0, 1, 2, 3]] * 3 + [[1, 0, 1, 2, 3, 7, 8, 9], [-7, 0, 3, 4, 1], [1, 0, 3, 4, 1, 1]])

    def test_the_greatest_room(self):
        self.assertEqual(after(part(1, 2, [7]), hand(5, helper.GREATEST)), [[1, 0, 1, 2, 1, 7]])

    def test_it_is_no_gap_however_late(self):
        self.assertEqual(after(part(1, 2, [7]), hand(2 ** 50 - 1, 0), hand(2 ** 50 - 1, 1)),
                         [[-7, 0, 1, 2, 1], [1, 0, 1, 2, 1, 7]])

    def test_it_lets_go_what_was_handed_on_wholly(self):
        begun = [lay(10), take(5, one_packet(0)), take(5, one_packet(1, part(8, 9, [4]))), hand(5, 0)]
        again = take(5, one_packet(0))
        self.assertEqual(told(begun + [again])[4:], [[1]])
        self.assertEqual(told(begun + [hand(5, 0), again, hand(5, 1)])[4:],
                         [[-7, 1, 8, 9, 1], [2], [1, 1, 8, 9, 1, 4]])

    def test_it_lets_far_go_too(self):
        calls = [lay(10), take(100, one_packet(16))] + [hand(110)] * 16
        calls += [take(300, one_packet(16)), take(300, one_packet(17, part(1, 1, [1, 1]))), hand(300)]
        calls += [hand(300, 1), take(400, one_packet(33)), hand(300, 2), hand(409), hand(410)]
        self.assertEqual(told(calls)[-5:], [[-7, 17, 1, 1, 2], [3], [1, 17, 1, 1, 2, 1, 1], [0], [2, 18]])


class Faults(unittest.TestCase):
    def test_too_few_for_a_head(self):
        for size in range(1, 13):
            self.assertEqual(after([0] * size, hand(5), hand(5)), [[3, 0, 0, size], [0]])

    def test_just_enough_for_a_head(self):
        self.assertEqual(after([0] * 13, hand(5), hand(5)), [[1, 0, 0, 0, 0], [0]])

    def test_too_few_for_what_it_says(self):
        short = [1] + low_first(2, 8) + low_first(3, 4) + [9, 9]
        self.assertEqual(after(short, hand(5), hand(5)), [[3, 0, 0, 15], [0]])
        self.assertEqual(after(short + [9], hand(5), hand(5)), [[1, 0, 1, 2, 3, 9, 9, 9], [0]])
        self.assertEqual(after([1] + low_first(2, 8) + [255] * 4, hand(5)), [[3, 0, 0, 13]])

    def test_each_byte_of_what_it_says_counts(self):
        for at in range(4):
            size = [0] * 4
            size[at] = 1
            self.assertEqual(after([1] + low_first(2, 8) + size, hand(5)), [[3, 0, 0, 13]])

    def test_too_few_for_what_it_says_is_no_matter_of_room(self):
        short = [1] + low_first(2, 8) + low_first(3, 4) + [9, 9]
        self.assertEqual(after(short, hand(5, 0)), [[3, 0, 0, 15]])

    def test_behind_right_parts(self):
        octets = part(1, 2, [3]) + part(4, 5, []) + [0] * 12
        self.assertEqual(after(octets, hand(5), hand(5), hand(5), hand(5)),
                         [[1, 0, 1, 2, 1, 3], [1, 0, 4, 5, 0], [3, 0, 27, 39], [0]])
        octets = part(1, 2, [3]) + [1] + low_first(2, 8) + low_first(1, 4)
        self.assertEqual(after(octets, hand(5), hand(5)), [[1, 0, 1, 2, 1, 3], [3, 0, 14, 27]])

    def test_the_group_is_gone_at_once(self):
        packet = one_packet(0, [1])
        self.assertEqual(told([lay(10), take(5, packet), take(5, one_packet(1)), hand(5), take(5, packet), hand(5)]),
                         [[0], [0], [0], [3, 0, 0, 1], [2], [1, 1, 1, 2, 0]])

    def test_filling_is_not_read_as_a_part(self):
        made = packets(part(1, 2, [3]), s=28, k=0)
        self.assertEqual(told([lay(10), take(5, made[0]), hand(5), hand(5)])[2:], [[1, 0, 1, 2, 1, 3], [0]])


class Gaps(unittest.TestCase):
    def test_by_the_group_itself(self):
        calls = [lay(10), take(100, raw_packet(n=2, size=2)), hand(109), hand(110), hand(2 ** 50 - 1)]
        self.assertEqual(told(calls), [[0], [0], [0], [2, 0], [0]])

    def test_by_a_later_group(self):
        calls = [lay(10), take(100, one_packet(2)), hand(109), hand(110), hand(109), hand(110), hand(0), hand(110)]
        self.assertEqual(told(calls)[2:], [[0], [2, 0], [0], [2, 1], [1, 2, 1, 2, 0], [0]])

    def test_by_the_last_group_of_the_window(self):
        calls = [lay(10), take(100, one_packet(15)), hand(109), hand(110)]
        self.assertEqual(told(calls)[2:], [[0], [2, 0]])

    def test_by_far(self):
        calls = [lay(10), take(100, one_packet(16)), hand(109), hand(110)]
        self.assertEqual(told(calls)[2:], [[0], [2, 0]])

    def test_the_least_of_all_times(self):
        half = dict(n=2, size=2)
        for times in ((100, 200, 300), (200, 100, 300), (300, 200, 100), (100, 100, 100)):
            calls = [lay(10), take(times[0], raw_packet(**half)), take(times[1], raw_packet(group=5, **half)),
                     take(times[2], raw_packet(group=90, **half)), hand(109), hand(110)]
            self.assertEqual(told(calls)[4:], [[0], [2, 0]])

    def test_the_first_packets_time_and_not_the_second(self):
        calls = [lay(10), take(100, raw_packet(n=3, size=3)), take(50, raw_packet(n=3, size=3, which=1)), hand(109),
                 hand(110)]
        self.assertEqual(told(calls)[3:], [[0], [2, 0]])

    def test_a_packet_that_came_twice_keeps_its_first_time(self):
        calls = [lay(10), take(100, raw_packet(n=3, size=3)), take(50, raw_packet(n=3, size=3)), hand(109), hand(110)]
        self.assertEqual(told(calls)[2:], [[1], [0], [2, 0]])

    def test_the_time_of_a_group_that_went_counts_no_more(self):
        calls = [lay(10), take(100, raw_packet(n=2, size=2)), take(200, raw_packet(group=1, n=2, size=2)), hand(110),
                 hand(209), hand(210)]
        self.assertEqual(told(calls)[3:], [[2, 0], [0], [2, 1]])

    def test_nothing_held_is_never_due(self):
        self.assertEqual(told([lay(0), hand(2 ** 50 - 1), hand(0)]), [[0], [0], [0]])

    def test_wait_0(self):
        calls = [lay(0), take(100, one_packet(1)), hand(99), hand(100)]
        self.assertEqual(told(calls)[2:], [[0], [2, 0]])

    def test_a_gap_comes_once_and_late_packets_do_not_undo_it(self):
        calls = [lay(10), take(100, one_packet(1)), hand(110), take(111, one_packet(0)), hand(111), hand(111)]
        self.assertEqual(told(calls)[2:], [[2, 0], [2], [1, 1, 1, 2, 0], [0]])

    def test_a_group_completed_after_it_was_due_is_no_gap(self):
        calls = [lay(10), take(100, one_packet(1)), hand(109), take(500, one_packet(0)), hand(500), hand(500)]
        self.assertEqual(told(calls)[2:], [[0], [0], [1, 0, 1, 2, 0], [1, 1, 1, 2, 0]])

    def test_going_on_lets_nothing_else_go(self):
        octets = part(1, 2, [3, 4])
        made = packets(octets, group=1, s=8, k=1)
        calls = [lay(10), take(100, made[0]), hand(110), take(111, made[2]), hand(111)]
        self.assertEqual(told(calls)[2:], [[2, 0], [0], [1, 1, 1, 2, 2, 3, 4]])


class Refusals(unittest.TestCase):
    def test_no_receiver(self):
        self.assertEqual(told([hand(5), hand(2 ** 50), lay(5), hand(5)]), [[-9], [-9], [0], [0]])

    def test_the_calls_that_need_a_receiver(self):
        self.assertEqual(told([[4, 1], [5, 0], [6, 0]]), [[-9]] * 3)

    def test_now(self):
        self.assertEqual(after(part(1, 2, [3]), hand(2 ** 50), hand(helper.GREATEST, 0), hand(2 ** 50 - 1)),
                         [[-1], [-1], [1, 0, 1, 2, 1, 3]])

    def test_a_refused_next_does_not_go_on(self):
        packet = one_packet(0)
        self.assertEqual(told([lay(10), take(5, packet), hand(5), hand(2 ** 50), take(5, packet), hand(5),
                               take(5, packet)])[2:],
                         [[1, 0, 1, 2, 0], [-1], [1], [0], [2]])

    def test_a_refused_next_tells_no_gap(self):
        self.assertEqual(told([lay(10), take(5, one_packet(1)), hand(2 ** 50), hand(14), hand(15)])[2:],
                         [[-1], [0], [2, 0]])


if __name__ == "__main__":
    unittest.main()
