"""The call take: what is a packet, its answers in their order, far, and the points it takes."""

import random
import unittest

from groupstream.clock import Points
from groupstream.stream import Receiver
from tests import helper
from tests.helper import hand, last, lay, one_packet, packets, part, raw_packet, take, told

TWO = [7, 1, 0, 0, 0, 0, 0, 0, 0, 2, 0, 0, 0, 65, 66]


def answer_to(packet):
    return last([lay(100), take(1000, packet)])


class OneBit(unittest.TestCase):
    """Promise 4."""

    def check_all_bits(self, packet):
        changed = []
        for at in range(len(packet)):
            for bit in range(8):
                other = list(packet)
                other[at] ^= 1 << bit
                changed.append(other)
        self.assertEqual(answer_to(packet), [0])
        for begin in range(0, len(changed), 150):
            some = changed[begin:begin + 150]
            calls = [lay(100)] + [take(1000, other) for other in some] + [take(1000, packet)]
            self.assertEqual(told(calls), [[0]] + [[-2]] * len(some) + [[0]])

    def test_the_example(self):
        for packet in packets(TWO, s=8, k=1, sent=5):
            self.check_all_bits(packet)

    def test_the_shortest(self):
        self.check_all_bits(raw_packet(row=[0]))
        self.check_all_bits(raw_packet(row=[255], group=15, sent=2 ** 50 - 1))

    def test_the_longest(self):
        made = packets([(at * 91) % 256 for at in range(1000)], s=64, k=16, group=3, sent=2 ** 49 + 12345)
        self.check_all_bits(made[0])
        self.check_all_bits(made[15])
        self.check_all_bits(made[31])


class NoPacket(unittest.TestCase):
    def check_edge(self, inside, outside):
        self.assertEqual(answer_to(raw_packet(**inside)), [0])
        self.assertEqual(answer_to(raw_packet(**outside)), [-2])

    def test_other_lengths(self):
        packet = packets(TWO, s=8, k=1)[1]
        for length in list(range(len(packet))) + [len(packet) + 1]:
            self.assertEqual(answer_to((packet + [0])[:length]), [-2])
        self.assertEqual(answer_to([]), [-2])
        self.assertEqual(answer_to([0] * 2000), [-2])
        self.assertEqual(answer_to(packet * 50), [-2])

    def test_a_length_that_is_not_what_s_says(self):
        self.check_edge(dict(size=1, s=8, row=[1] * 8), dict(size=1, s=8, row=[1] * 7))
        self.check_edge(dict(size=1, s=8, row=[1] * 8), dict(size=1, s=8, row=[1] * 9))
        self.check_edge(dict(size=1, s=1, row=[1]), dict(size=1, s=257, row=[1]))

    def test_s(self):
        self.check_edge(dict(size=64, s=64), dict(size=64, s=65))
        self.check_edge(dict(size=1, s=1), dict(size=1, s=0))
        self.check_edge(dict(size=1, s=1), dict(size=0, s=0, n=0, k=1))
        self.assertEqual(answer_to(raw_packet(size=300, s=300)), [-2])

    def test_the_mark(self):
        for at in range(4):
            mark = [76, 119, 110, 49]
            mark[at] += 1
            self.check_edge(dict(), dict(mark=mark))

    def test_the_zeros(self):
        self.check_edge(dict(), dict(zero=1))
        self.check_edge(dict(), dict(zeros=(1, 0)))
        self.check_edge(dict(), dict(zeros=(0, 1)))
        self.check_edge(dict(), dict(zeros=(0, 128)))

    def test_n(self):
        self.check_edge(dict(n=16, size=16), dict(n=17, size=17))
        self.check_edge(dict(n=16, size=128, s=8), dict(n=17, size=129, s=8))
        self.assertEqual(answer_to(raw_packet(n=255, size=255)), [-2])

    def test_n_is_what_the_bytes_want(self):
        self.check_edge(dict(n=2, size=16, s=8), dict(n=1, size=16, s=8))
        self.check_edge(dict(n=2, size=16, s=8), dict(n=3, size=16, s=8))
        self.check_edge(dict(n=2, size=9, s=8), dict(n=2, size=8, s=8))
        self.check_edge(dict(n=2, size=16, s=8), dict(n=2, size=17, s=8))
        self.check_edge(dict(n=2, size=16, s=8), dict(n=2, size=16 + 2 ** 31, s=8))
        self.check_edge(dict(n=1, size=1, s=8), dict(n=0, size=1, s=8, k=1))

    def test_none_wanted(self):
        self.check_edge(dict(n=1, size=1, k=1), dict(n=0, size=0, k=1))
        self.check_edge(dict(n=1, size=1, k=1), dict(n=1, size=0, k=1))

    def test_k(self):
        self.check_edge(dict(k=16), dict(k=17))
        self.check_edge(dict(k=16, which=16), dict(k=255, which=16))

    def test_which(self):
        self.check_edge(dict(which=0), dict(which=1))
        self.check_edge(dict(which=18, n=3, k=16, size=3), dict(which=19, n=3, k=16, size=3))
        self.check_edge(dict(which=31, n=16, k=16, size=16), dict(which=32, n=16, k=16, size=16))
        self.assertEqual(answer_to(raw_packet(which=255)), [-2])

    def test_sent(self):
        self.check_edge(dict(sent=2 ** 50 - 1), dict(sent=2 ** 50))
        self.check_edge(dict(sent=0), dict(sent=2 ** 64 - 1))

    def test_the_crc(self):
        packet = raw_packet()
        for at in range(4):
            other = list(packet)
            other[-1 - at] = (other[-1 - at] + 1) % 256
            self.assertEqual(answer_to(other), [-2])

    def test_the_last_packets_filling_may_be_anything(self):
        self.assertEqual(answer_to(raw_packet(size=1, s=3, row=[1, 2, 3])), [0])


class TheAnswers(unittest.TestCase):
    def test_no_receiver(self):
        packet = one_packet(0)
        self.assertEqual(told([take(5, packet), take(2 ** 50, packet), take(5, []), lay(1), take(5, packet)]),
                         [[-9], [-9], [-9], [0], [0]])

    def test_a_refused_lay_makes_no_receiver(self):
        self.assertEqual(told([lay(2 ** 40 + 1), take(5, one_packet(0)), hand(5), lay(2 ** 40), hand(5)]),
                         [[-1], [-9], [-9], [0], [0]])

    def test_now(self):
        packet = one_packet(0)
        self.assertEqual(told([lay(9), take(2 ** 50, packet), take(helper.GREATEST, packet), take(2 ** 50, []),
                               take(2 ** 50 - 1, packet), take(0, packet)]),
                         [[0], [-1], [-1], [-1], [0], [1]])

    def test_held_and_complete(self):
        first, second, repair = packets(TWO, s=8, k=1)
        self.assertEqual(told([lay(9), take(5, repair), take(6, repair), take(7, first), take(8, second),
                               take(9, first), take(9, repair)]),
                         [[0], [0], [1], [0], [1], [1], [1]])

    def test_a_packet_of_one_number_is_held_once_whatever_else_it_says(self):
        one = raw_packet(n=2, size=2, row=[1], sent=1)
        other = raw_packet(n=2, size=2, row=[2], sent=2)
        self.assertEqual(told([lay(9), take(5, one), take(5, other)]), [[0], [0], [1]])

    def test_before_next(self):
        empty = one_packet(0)
        self.assertEqual(told([lay(9), take(5, empty), hand(5), take(5, empty), hand(5), take(5, empty), hand(5)]),
                         [[0], [0], [1, 0, 1, 2, 0], [1], [0], [2], [0]])

    def test_a_gap_is_before_next_at_once(self):
        self.assertEqual(told([lay(9), take(5, one_packet(1)), hand(14), take(15, one_packet(0)), hand(15)]),
                         [[0], [0], [2, 0], [2], [1, 1, 1, 2, 0]])

    def test_before_next_says_nothing_of_the_shape(self):
        self.assertEqual(last([lay(9), take(5, one_packet(1)), hand(14), take(15, raw_packet(group=0, k=7))]), [2])

    def test_the_window(self):
        self.assertEqual(told([lay(9), take(5, one_packet(15)), take(5, one_packet(16)),
                               take(5, one_packet(2 ** 32 - 1)), take(5, one_packet(0))]),
                         [[0], [0], [3], [3], [0]])

    def test_the_window_goes_on_with_next(self):
        calls = [lay(9), take(5, one_packet(0)), take(5, one_packet(16)), hand(5), take(5, one_packet(16)), hand(5),
                 take(5, one_packet(16)), take(5, one_packet(17))]
        self.assertEqual(told(calls), [[0], [0], [3], [1, 0, 1, 2, 0], [3], [0], [0], [3]])

    def test_sixteen_groups_at_once(self):
        calls = [lay(0)] + [take(5, one_packet(group)) for group in range(15, -1, -1)] + [hand(5)] * 17
        self.assertEqual(told(calls), [[0]] * 17 + [[1, group, 1, 2, 0] for group in range(16)] + [[0]])


class SaysOtherwise(unittest.TestCase):
    def check(self, held, other):
        held_packet = raw_packet(**held)
        other_packet = raw_packet(**other)
        self.assertEqual(told([lay(9), take(5, held_packet), take(5, other_packet), take(5, held_packet)]),
                         [[0], [0], [-3], [1]])
        self.assertEqual(told([lay(9), take(5, other_packet), take(5, held_packet)]), [[0], [0], [-3]])

    def test_each_of_the_four(self):
        base = dict(n=2, k=1, s=8, size=15)
        self.check(base, dict(base, k=2))
        self.check(base, dict(base, k=0))
        self.check(base, dict(base, s=9))
        self.check(base, dict(base, size=16))
        self.check(base, dict(base, size=14))
        self.check(base, dict(base, n=1, size=8))
        self.check(base, dict(base, n=1, s=15))
        self.check(base, dict(base, which=1, k=2))

    def test_it_goes_before_complete(self):
        self.check(dict(), dict(k=1))

    def test_other_groups_may_say_what_they_like(self):
        self.assertEqual(told([lay(9), take(5, raw_packet()), take(5, raw_packet(group=1, k=3))]), [[0]] * 3)

    def test_a_changed_sent_is_not_otherwise(self):
        self.assertEqual(last([lay(9), take(5, raw_packet(n=2, size=2)), take(5, raw_packet(n=2, size=2, which=1,
                                                                                            sent=77))]), [0])

    def test_nothing_but_its_point_is_left_of_it(self):
        made = packets(TWO, s=8, k=1)
        other = raw_packet(n=2, k=3, s=8, size=15, which=1, row=[9] * 8)
        plain = [lay(9), take(50, made[0]), take(60, made[1]), hand(60), hand(60), take(61, made[2])]
        with_other = plain[:2] + [take(2, other)] + plain[2:]
        answers = told(with_other)
        self.assertEqual(answers[2], [-3])
        self.assertEqual(answers[:2] + answers[3:], told(plain))

    def test_it_does_not_make_the_gap_due_earlier(self):
        calls = [lay(9), take(50, raw_packet(n=2, size=2)), take(2, raw_packet(k=1)), hand(58), hand(59)]
        self.assertEqual(told(calls), [[0], [0], [-3], [0], [2, 0]])


class TheFar(unittest.TestCase):
    def test_it_makes_gaps_up_to_its_number_and_no_further(self):
        calls = [lay(10), take(100, one_packet(16)), hand(109)] + [hand(110)] * 18
        self.assertEqual(told(calls), [[0], [3], [0]] + [[2, group] for group in range(17)] + [[0]])

    def test_the_first_ones_time_and_the_greatest_number(self):
        calls = [lay(10), take(100, one_packet(17)), take(50, one_packet(19)), take(500, one_packet(16)), hand(109)]
        calls += [hand(110)] * 21
        self.assertEqual(told(calls), [[0], [3], [3], [3], [0]] + [[2, group] for group in range(20)] + [[0]])

    def test_a_later_far_packet_still_counts_once_far_lies_within(self):
        # Far 16 of time 100 lies within the window after one gap; 20 then makes its number greater, time stays.
        calls = [lay(10), take(100, one_packet(16)), hand(110), take(900, one_packet(20))] + [hand(110)] * 21
        self.assertEqual(told(calls), [[0], [3], [2, 0], [3]] + [[2, group] for group in range(1, 21)] + [[0]])

    def test_far_is_nothing_once_next_is_beyond_it(self):
        calls = [lay(10), take(100, one_packet(16))] + [hand(110)] * 17 + [take(200, one_packet(33)), hand(209),
                                                                         hand(210)]
        self.assertEqual(told(calls)[-3:], [[3], [0], [2, 17]])

    def test_far_is_still_there_while_its_number_is_next(self):
        calls = [lay(10), take(100, one_packet(16))] + [hand(110)] * 16 + [take(200, one_packet(32)), hand(109),
                                                                         hand(110), hand(110)]
        self.assertEqual(told(calls)[-4:], [[3], [0], [2, 16], [2, 17]])

    def test_far_goes_with_a_group_that_is_handed_on(self):
        calls = [lay(10), take(100, one_packet(16))] + [hand(110)] * 16 + [take(300, one_packet(16)), hand(300),
                                                                         hand(300), take(400, one_packet(33)),
                                                                         hand(409), hand(410)]
        self.assertEqual(told(calls)[-6:], [[0], [1, 16, 1, 2, 0], [0], [3], [0], [2, 17]])

    def test_far_is_not_held(self):
        calls = [lay(10), take(100, one_packet(16)), take(100, one_packet(0)), hand(100), hand(100),
                 take(100, one_packet(16)), take(100, one_packet(16))]
        self.assertEqual(told(calls)[-2:], [[0], [1]])

    def test_what_is_no_packet_is_not_far(self):
        packet = one_packet(16)
        packet[-1] ^= 1
        self.assertEqual(told([lay(10), take(100, packet), take(2 ** 50, one_packet(16)), hand(2 ** 50 - 1)]),
                         [[0], [-2], [-1], [0]])


class ThePoints(unittest.TestCase):
    def test_the_least_of_one_number_and_of_several_the_first(self):
        points = Points()
        for x, d in ((10, 50), (20, 49), (30, 49), (0, 60), (131071, 49), (131072, 99)):
            points.take_point(x, d)
        self.assertEqual(points.kept, {0: (20, 49), 1: (131072, 99)})

    def test_below_zero(self):
        points = Points()
        points.take_point(500, -400)
        points.take_point(600, -399)
        points.take_point(700, -401)
        self.assertEqual(points.kept, {0: (700, -401)})

    def test_the_greatest_64(self):
        source = random.Random(11)
        for _ in range(20):
            points = Points()
            came = [(source.randrange(100 * 131072), source.randrange(-9, 9)) for _ in range(300)]
            for x, d in came:
                points.take_point(x, d)
            numbers = sorted({x // 131072 for x, d in came})[-64:]
            expected = {}
            for number in numbers:
                of_number = [point for point in came if point[0] // 131072 == number]
                expected[number] = min(of_number, key=lambda point: point[1])
            self.assertEqual(points.kept, expected)

    def test_63_64_65_numbers(self):
        for count in (63, 64, 65):
            points = Points()
            for number in range(count):
                points.take_point(number * 131072, 0)
            self.assertEqual(sorted(points.kept), list(range(count))[-64:])

    def test_whatever_becomes_of_a_right_packet(self):
        receiver = Receiver(10)
        kinds = [(raw_packet(n=2, size=2, sent=5), 0), (raw_packet(n=2, size=2, sent=131072), 1),
                 (raw_packet(k=1, sent=2 * 131072), -3), (raw_packet(group=16, sent=3 * 131072), 3)]
        for packet, answer in kinds:
            self.assertEqual(receiver.take(1000, packet), answer)
        self.assertEqual(receiver.hand_on(1010, 0), [2, 0])
        self.assertEqual(receiver.take(1000, raw_packet(sent=4 * 131072)), 2)
        expected = {0: (5, 995)}
        for number in range(1, 5):
            expected[number] = (number * 131072, 1000 - number * 131072)
        self.assertEqual(receiver.points.kept, expected)

    def test_refused_packets_give_none(self):
        receiver = Receiver(10)
        self.assertEqual(receiver.take(2 ** 50, raw_packet()), -1)
        self.assertEqual(receiver.take(5, raw_packet(k=17)), -2)
        self.assertEqual(receiver.points.kept, {})


class LayAnew(unittest.TestCase):
    def test_everything_is_let_go(self):
        octets = part(1, 2, [3]) + part(4, 5, [6])
        first, second = packets(octets, s=16, k=0)
        begun = [take(100, one_packet(20)), take(100, first), take(100, second), hand(100), take(100, one_packet(3))]
        self.assertEqual(told([lay(10)] + begun), [[0], [3], [0], [0], [1, 0, 1, 2, 1, 3], [0]])
        calls = [lay(10)] + begun + [lay(20), hand(2 ** 50 - 1), take(500, second), take(505, first), hand(505),
                                     hand(505), hand(505), take(600, one_packet(2)), hand(619), hand(620)]
        self.assertEqual(told(calls)[6:], [[0], [0], [0], [0], [1, 0, 1, 2, 1, 3], [1, 0, 4, 5, 1, 6], [0], [0], [0],
                                           [2, 1]])

    def test_next_is_0_again(self):
        calls = [lay(0), take(5, one_packet(2)), hand(5), hand(5), hand(5), hand(5), take(6, one_packet(2)), lay(0),
                 take(6, one_packet(2)), hand(6)]
        self.assertEqual(told(calls)[5:], [[0], [2], [0], [0], [2, 0]])

    def test_a_refused_lay_in_the_middle_changes_nothing(self):
        calls = [lay(10), take(5, one_packet(1)), lay(2 ** 40 + 1), hand(14), hand(15), hand(15)]
        self.assertEqual(told(calls), [[0], [0], [-1], [0], [2, 0], [1, 1, 1, 2, 0]])

    def test_waits_edge(self):
        self.assertEqual(told([lay(0), lay(2 ** 40), lay(2 ** 40 + 1), lay(helper.GREATEST)]),
                         [[0], [0], [-1], [-1]])

    def test_the_longest_wait(self):
        calls = [lay(2 ** 40), take(7, one_packet(1)), hand(2 ** 40 + 6), hand(2 ** 40 + 7)]
        self.assertEqual(told(calls)[2:], [[0], [2, 0]])


if __name__ == "__main__":
    unittest.main()
