"""The call missing: of groups that are held, and of those that aren't."""

import unittest

from tests import helper
from tests.helper import hand, jump, lay, missing, one_packet, packets, part, raw_packet, take, told

OCTETS = part(1, 2, list(range(20)))


def behind(begun, *more):
    """The answers to more, behind a receiver of wait 10 and the calls begun."""
    calls = [lay(10)] + list(begun)
    return told(calls + list(more))[len(calls):]


class NotHeld(unittest.TestCase):
    def test_never_taken(self):
        self.assertEqual(behind([], missing(0), missing(1), missing(2 ** 32 - 1), missing(2 ** 32),
                                missing(helper.GREATEST)), [[-2]] * 5)
        self.assertEqual(behind([take(5, one_packet(1))], missing(0), missing(1), missing(2)),
                         [[-2], [0, 0, 1, 0], [-2]])

    def test_let_go_by_next_handed_on(self):
        # Wholly handed on it's held until next goes one on.
        self.assertEqual(behind([take(5, one_packet(0))], missing(0), hand(5), missing(0), hand(5), missing(0)),
                         [[0, 0, 1, 0], [1, 0, 1, 2, 0], [0, 0, 1, 0], [0], [-2]])

    def test_let_go_by_minus_7(self):
        begun = [take(5, one_packet(0)), take(5, one_packet(1, part(1, 1, [1]))), hand(5)]
        self.assertEqual(behind(begun, missing(0), hand(5, 0), missing(0), missing(1)),
                         [[0, 0, 1, 0], [-7, 1, 1, 1, 1], [-2], [0, 0, 1, 0]])

    def test_let_go_by_next_as_a_gap(self):
        begun = [take(5, packets(OCTETS, s=8)[2])]
        self.assertEqual(behind(begun, hand(14), missing(0), hand(15), missing(0)),
                         [[0], [0, 4, 1, 2], [2, 0], [-2]])

    def test_let_go_by_next_as_a_fault(self):
        self.assertEqual(behind([take(5, one_packet(0, [1]))], missing(0), hand(5), missing(0)),
                         [[0, 0, 1, 0], [3, 0, 0, 1], [-2]])

    def test_let_go_by_jump(self):
        begun = [take(5, one_packet(0)), take(5, one_packet(2))]
        self.assertEqual(behind(begun, jump(1), missing(0), missing(2), jump(3), missing(2)),
                         [[0], [-2], [0, 0, 1, 0], [0], [-2]])

    def test_let_go_by_lay(self):
        self.assertEqual(behind([take(5, one_packet(0))], lay(2 ** 40 + 1), missing(0), lay(5), missing(0)),
                         [[-1], [0, 0, 1, 0], [0], [-2]])

    def test_behind_next_and_15(self):
        self.assertEqual(behind([take(5, one_packet(15)), take(5, one_packet(16))], missing(15), missing(16)),
                         [[0, 0, 1, 0], [-2]])

    def test_it_is_not_held_later_either_because_it_was_far(self):
        self.assertEqual(behind([take(5, one_packet(16)), jump(10)], missing(16), take(5, one_packet(16)),
                                missing(16)), [[-2], [0], [0, 0, 1, 0]])

    def test_what_is_no_packet_or_too_late_is_not_held(self):
        packet = one_packet(0)
        packet[-1] ^= 1
        self.assertEqual(behind([take(5, packet), take(2 ** 50, one_packet(0)), take(5, one_packet(1)), hand(15),
                                 take(15, one_packet(0))], missing(0), missing(1)), [[-2], [0, 0, 1, 0]])


class Held(unittest.TestCase):
    def check(self, order, octets=OCTETS, s=8, k=3):
        """Takes a group's packets in this order, asking behind each."""
        made = packets(octets, 3, s, k)
        n = len(made) - k
        calls = []
        expected = []
        held = []
        for which in order:
            fresh = which not in held and len(held) < n
            held += [which] if fresh else []
            calls += [take(5, made[which]), missing(3)]
            expected += [[0] if fresh else [1], [0, n - len(held), len(held)] + sorted(held)]
        self.assertEqual(behind([], *calls), expected)

    def test_one_order_and_another(self):
        self.check([0, 1, 2, 3, 4])
        self.check([4, 3, 2, 1, 0])
        self.check([3, 0, 4, 1, 2])

    def test_with_repair_packets(self):
        self.check([7, 6, 5, 4, 3])
        self.check([2, 7, 0, 5, 1])
        self.check([6, 3, 7, 0, 5])

    def test_packets_that_come_again(self):
        self.check([7, 7, 2, 7, 2, 0])

    def test_the_first_n_alone(self):
        self.check([7, 1, 6, 2, 5, 0, 3, 4, 7, 1])
        self.check([0, 1, 2, 3, 4, 5, 6, 7])

    def test_a_group_of_one_packet(self):
        self.check([0, 1, 2], part(1, 2, []), 13, 2)
        self.check([2, 1, 0], part(1, 2, []), 13, 2)

    def test_the_largest(self):
        octets = part(1, 2, [7] * 1000)
        self.check([31, 0, 16, 15, 17, 30, 2, 29], octets, 64, 16)
        self.check(list(range(31, -1, -1)), octets, 64, 16)
        self.check(list(range(16)) + [16, 31], octets, 64, 16)

    def test_what_says_otherwise_is_not_held(self):
        self.assertEqual(behind([take(5, raw_packet(n=2, size=2)), take(5, raw_packet(n=2, size=2, k=1, which=2))],
                                missing(0)), [[0, 1, 1, 0]])

    def test_several_groups_at_once(self):
        begun = [take(5, packets(OCTETS, group, 8, 3)[group]) for group in range(8)]
        self.assertEqual(behind(begun, *[missing(group) for group in range(9)]),
                         [[0, 4, 1, group] for group in range(8)] + [[-2]])

    def test_asking_changes_nothing(self):
        made = packets(OCTETS, 0, 8, 1)
        calls = [lay(10)] + [take(5 + at, packet) for at, packet in enumerate(made)] + [hand(9), hand(9), hand(9)]
        mixed = []
        for call in calls:
            mixed += [call, missing(0), missing(1), missing(helper.GREATEST)]
        self.assertEqual(told(mixed)[::4], told(calls))


if __name__ == "__main__":
    unittest.main()
