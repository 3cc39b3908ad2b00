"""The call jump: its edges, what it lets go and what stays, and far."""

import unittest

from tests import helper
from tests.helper import hand, jump, lay, missing, one_packet, packets, part, raw_packet, take, told

LAST = 2 ** 32 - 1
EMPTY = [1, 2, 0]


def behind(begun, *more):
    """The answers to more, behind a receiver of wait 10 and the calls begun."""
    calls = [lay(10)] + list(begun)
    return told(calls + list(more))[len(calls):]


class TheEdges(unittest.TestCase):
    def test_to_next_itself_one_below_one_above(self):
        self.assertEqual(behind([], jump(0), jump(1), jump(1), jump(0), jump(2)), [[-1], [0], [-1], [-1], [0]])
        self.assertEqual(behind([jump(7)], jump(6), jump(7), jump(8), jump(8)), [[-1], [-1], [0], [-1]])

    def test_next_counts_as_it_went_on_by_itself(self):
        gap = [take(5, one_packet(1)), hand(15)]
        self.assertEqual(behind(gap, jump(1), jump(0), jump(2)), [[-1], [-1], [0]])

    def test_to_2_to_the_32_and_one_above_it(self):
        self.assertEqual(behind([], jump(2 ** 32 + 1), jump(helper.GREATEST), jump(2 ** 32), jump(2 ** 32),
                                jump(2 ** 32 + 1), jump(LAST)), [[-1], [-1], [0], [-1], [-1], [-1]])

    def test_behind_the_last_group_nothing_comes(self):
        self.assertEqual(behind([take(5, one_packet(0)), take(5, one_packet(LAST)), jump(2 ** 32)],
                                hand(2 ** 50 - 1), take(5, one_packet(LAST)), take(5, one_packet(0)), missing(LAST),
                                missing(2 ** 32), hand(2 ** 50 - 1)),
                         [[0], [2], [2], [-2], [-2], [0]])

    def test_to_the_last_group(self):
        self.assertEqual(behind([jump(LAST)], hand(2 ** 50 - 1), take(5, one_packet(LAST)), hand(5), hand(5),
                                take(5, one_packet(LAST)), jump(LAST), jump(2 ** 32)),
                         [[0], [0], [1, LAST] + EMPTY, [0], [2], [-1], [-1]])

    def test_a_gap_of_the_last_group(self):
        self.assertEqual(behind([jump(LAST), take(5, raw_packet(group=LAST, n=2, size=2))], hand(14), hand(15),
                                hand(2 ** 50 - 1), jump(2 ** 32)), [[0], [2, LAST], [0], [-1]])

    def test_lay_anew_begins_at_0_again(self):
        self.assertEqual(behind([jump(2 ** 32)], lay(10), take(5, one_packet(0)), hand(5), jump(0), jump(1)),
                         [[0], [0], [1, 0] + EMPTY, [-1], [0]])


class WhatIsHeld(unittest.TestCase):
    def test_what_is_before_is_let_go(self):
        begun = [take(5, one_packet(group)) for group in range(6)]
        self.assertEqual(behind(begun, jump(4), *[missing(group) for group in range(6)]),
                         [[0]] + [[-2]] * 4 + [[0, 0, 1, 0]] * 2)
        self.assertEqual(behind(begun, jump(4), take(5, one_packet(3)), hand(5), hand(5), hand(5)),
                         [[0], [2], [1, 4] + EMPTY, [1, 5] + EMPTY, [0]])

    def test_all_sixteen_are_let_go(self):
        begun = [take(5, one_packet(group)) for group in range(16)]
        self.assertEqual(behind(begun, jump(16), *[missing(group) for group in range(16)]), [[0]] + [[-2]] * 16)
        self.assertEqual(behind(begun, jump(16), hand(2 ** 50 - 1)), [[0], [0]])
        self.assertEqual(behind(begun, jump(15), hand(5), hand(5)), [[0], [1, 15] + EMPTY, [0]])

    def test_what_was_let_go_makes_nothing_due(self):
        begun = [take(5, one_packet(2)), take(100, raw_packet(group=6, n=2, size=2))]
        self.assertEqual(behind(begun, jump(3), hand(109), hand(110)), [[0], [0], [2, 3]])
        self.assertEqual(behind(begun, jump(2), hand(14)), [[0], [1, 2] + EMPTY])

    def test_a_held_group_that_is_short_goes_on(self):
        made = packets(part(1, 2, [3, 4]), group=4, s=5, k=1)
        self.assertEqual(behind([take(5, made[1])], jump(4), missing(4), take(6, made[1]), take(7, made[3]),
                                missing(4), take(8, made[0]), take(8, made[2]), hand(8), hand(8)),
                         [[0], [0, 2, 1, 1], [1], [0], [0, 1, 2, 1, 3], [0], [1], [1, 4, 1, 2, 2, 3, 4], [0]])

    def test_a_held_group_that_is_short_keeps_its_time(self):
        made = packets(part(1, 2, [3, 4]), group=4, s=5, k=1)
        self.assertEqual(behind([take(50, made[1])], jump(4), take(70, made[0]), hand(59), hand(60), hand(60)),
                         [[0], [0], [0], [2, 4], [0]])

    def test_a_held_group_still_says_what_it_said(self):
        self.assertEqual(behind([take(5, raw_packet(group=4, n=2, size=2))], jump(4),
                                take(5, raw_packet(group=4, n=2, size=2, k=1, which=1)), missing(4)),
                         [[0], [-3], [0, 1, 1, 0]])

    def test_from_the_middle_of_a_group(self):
        octets = part(1, 1, [1]) + part(2, 2, [2])
        begun = [take(5, packet) for group in (0, 1) for packet in packets(octets, group, 14, 0)] + [hand(5)]
        self.assertEqual(behind(begun, jump(1), hand(5), hand(5), hand(5)),
                         [[0], [1, 1, 1, 1, 1, 1], [1, 1, 2, 2, 1, 2], [0]])

    def test_from_the_middle_of_a_group_to_one_that_comes_later(self):
        octets = part(1, 1, [1]) + part(2, 2, [2])
        begun = [take(5, packet) for packet in packets(octets, 0, 14, 0)] + [hand(5), jump(3)]
        later = [take(5, packet) for packet in packets(octets, 3, 14, 0)]
        self.assertEqual(behind(begun, *later, hand(5), hand(5), hand(5)),
                         [[0], [0], [1, 3, 1, 1, 1, 1], [1, 3, 2, 2, 1, 2], [0]])

    def test_from_a_group_that_is_wholly_handed_on(self):
        # It's next's group still: only the following next goes on.
        begun = [take(5, one_packet(0)), take(5, one_packet(1)), hand(5)]
        self.assertEqual(behind(begun, jump(0), jump(1), hand(5), hand(5)), [[-1], [0], [1, 1] + EMPTY, [0]])

    def test_behind_minus_7(self):
        begun = [take(5, one_packet(0, part(1, 1, [1, 1]))), take(5, one_packet(1)), hand(5, 1)]
        self.assertEqual(behind(begun, jump(1), hand(5, 1), hand(5, 1)), [[0], [1, 1] + EMPTY, [0]])

    def test_no_gap_is_told_of_what_is_jumped_over(self):
        begun = [take(5, one_packet(9))]
        self.assertEqual(behind(begun, jump(8), hand(15), hand(15), hand(15)), [[0], [2, 8], [1, 9] + EMPTY, [0]])


class TheWindow(unittest.TestCase):
    def test_before_next_and_behind_next_and_15(self):
        self.assertEqual(behind([jump(100)], take(5, one_packet(99)), take(5, one_packet(0)), take(5, one_packet(100)),
                                take(5, one_packet(115)), take(5, one_packet(116)), missing(116), missing(115)),
                         [[2], [2], [0], [0], [3], [-2], [0, 0, 1, 0]])

    def test_the_end_of_all_groups(self):
        self.assertEqual(behind([jump(2 ** 32 - 17)], take(5, one_packet(LAST)), jump(2 ** 32 - 16),
                                take(5, one_packet(LAST)), missing(LAST)), [[3], [0], [0], [0, 0, 1, 0]])

    def test_a_refused_jump_moves_nothing(self):
        begun = [take(5, one_packet(3)), jump(0), jump(2 ** 32 + 1)]
        self.assertEqual(behind(begun, take(6, one_packet(15)), take(6, one_packet(16)), take(6, one_packet(0)),
                                hand(6), hand(14), hand(15), jump(1), jump(0), hand(15), hand(15)),
                         [[0], [3], [0], [1, 0] + EMPTY, [0], [2, 1], [-1], [-1], [2, 2], [1, 3] + EMPTY])

    def test_a_refused_jump_in_the_middle_of_a_group(self):
        octets = part(1, 1, [1]) + part(2, 2, [2])
        begun = [take(5, packet) for packet in packets(octets, 0, 14, 0)] + [hand(5)]
        self.assertEqual(behind(begun, jump(0), jump(2 ** 32 + 1), missing(0), hand(5), hand(5)),
                         [[-1], [-1], [0, 0, 2, 0, 1], [1, 0, 2, 2, 1, 2], [0]])


class TheFar(unittest.TestCase):
    def test_far_before_the_group_is_nothing_again(self):
        begun = [take(100, one_packet(20)), jump(21)]
        self.assertEqual(behind(begun, hand(2 ** 50 - 1)), [[0]])
        # So the next far packet's time is a new one.
        self.assertEqual(behind(begun, take(200, one_packet(37)), hand(209), hand(210)), [[3], [0], [2, 21]])

    def test_far_at_the_group_stays(self):
        begun = [take(100, one_packet(20)), jump(20)]
        self.assertEqual(behind(begun, hand(109), hand(110), hand(2 ** 50 - 1)), [[0], [2, 20], [0]])
        self.assertEqual(behind(begun, take(200, one_packet(36)), hand(109), hand(110), hand(110)),
                         [[3], [0], [2, 20], [2, 21]])

    def test_far_behind_the_group_stays(self):
        begun = [take(100, one_packet(20)), jump(19)]
        self.assertEqual(behind(begun, hand(109), hand(110), hand(109), hand(110), hand(2 ** 50 - 1)),
                         [[0], [2, 19], [0], [2, 20], [0]])
        begun = [take(100, one_packet(90)), jump(19)]
        self.assertEqual(behind(begun, hand(109), hand(110), hand(110)), [[0], [2, 19], [2, 20]])

    def test_the_greatest_number_of_far_counts(self):
        begun = [take(100, one_packet(20)), take(150, one_packet(30)), take(160, one_packet(25))]
        self.assertEqual(behind(begun, jump(30), hand(109), hand(110), hand(2 ** 50 - 1)), [[0], [0], [2, 30], [0]])
        self.assertEqual(behind(begun, jump(31), hand(2 ** 50 - 1)), [[0], [0]])

    def test_far_is_not_held_by_the_jump(self):
        begun = [take(100, one_packet(20)), jump(20)]
        self.assertEqual(behind(begun, missing(20), take(105, one_packet(20)), missing(20), hand(105), hand(105)),
                         [[-2], [0], [0, 0, 1, 0], [1, 20] + EMPTY, [0]])

    def test_far_and_held_groups_each_by_its_time(self):
        begun = [take(100, one_packet(20)), take(50, one_packet(5)), take(70, raw_packet(group=8, n=2, size=2))]
        self.assertEqual(behind(begun, jump(5), hand(0), hand(79), hand(80)), [[0], [1, 5] + EMPTY, [0], [2, 6]])
        self.assertEqual(behind(begun, jump(6), hand(79), hand(80), hand(80), hand(80), hand(109), hand(110)),
                         [[0], [0], [2, 6], [2, 7], [2, 8], [0], [2, 9]])

    def test_a_refused_jump_leaves_far(self):
        begun = [take(100, one_packet(20)), jump(0), jump(2 ** 32 + 1)]
        self.assertEqual(behind(begun, take(50, one_packet(21)), hand(109), hand(110)), [[3], [0], [2, 0]])


if __name__ == "__main__":
    unittest.main()
