"""Promise 1: any n of a group's packets give its bytes."""

import itertools
import random
import unittest

from tests.helper import cut, hand, last, lay, packets, part, take, told


def group_bytes(size, seed):
    """One part that fills all size bytes (13 at least)."""
    source = random.Random(seed)
    return part(seed % 256, source.randrange(2 ** 64), [source.randrange(256) for _ in range(size - 13)])


def handed(octets):
    return [1, 0, octets[0], int.from_bytes(bytes(octets[1:9]), "little"), len(octets) - 13] + octets[13:]


class AnyOfThem(unittest.TestCase):
    def check(self, octets, chosen):
        calls = [lay(100)]
        calls += [take(1000 + at, packet) for at, packet in enumerate(chosen)]
        calls += [hand(1000), hand(1000)]
        expected = [[0]] * (1 + len(chosen)) + [handed(octets), [0]]
        self.assertEqual(told(calls), expected)

    def test_every_choice_in_several_orders(self):
        source = random.Random(1)
        for size, s, k in ((13, 13, 3), (15, 8, 2), (14, 7, 4), (13, 5, 3), (20, 5, 4), (30, 6, 3), (64, 64, 2)):
            octets = group_bytes(size, size + s)
            made = packets(octets, s=s, k=k)
            n = len(made) - k
            for chosen in itertools.combinations(made, n):
                self.check(octets, chosen)
                self.check(octets, chosen[::-1])
                self.check(octets, source.sample(chosen, n))

    def test_every_order_of_a_small_group(self):
        octets = group_bytes(15, 9)
        for chosen in itertools.permutations(packets(octets, s=5, k=3), 3):
            self.check(octets, chosen)

    def test_the_largest(self):
        octets = group_bytes(1024, 3)
        made = packets(octets, s=64, k=16)
        source = random.Random(2)
        choices = [made[:16], made[16:], made[8:24], made[::2], made[1::2], made[:16][::-1], made[16:][::-1],
                   made[1:17], made[15:31], made[:1] + made[17:], made[15:16] + made[16:31]]
        choices += [source.sample(made, 16) for _ in range(40)]
        for chosen in choices:
            self.check(octets, chosen)

    def test_the_most_packets_with_small_rows(self):
        octets = group_bytes(16, 4)
        made = packets(octets, s=1, k=16)
        source = random.Random(3)
        for _ in range(150):
            self.check(octets, source.sample(made, 16))

    def test_shapes_by_chance(self):
        source = random.Random(4)
        for seed in range(150):
            s = source.randint(1, 64)
            size = source.randint(13, max(13, 16 * s))
            if size > 16 * s:
                continue
            k = source.randint(0, 16)
            octets = group_bytes(size, seed)
            made = packets(octets, s=s, k=k)
            self.check(octets, source.sample(made, len(made) - k))

    def test_what_cut_made_is_restored(self):
        octets = group_bytes(100, 5)
        answer = last([cut(0, 10, 10, 7, octets)])
        rows = [answer[at + 1:at + 43] for at in range(3, len(answer), 43)]
        self.assertEqual(len(rows), 20)
        source = random.Random(6)
        for _ in range(30):
            self.check(octets, source.sample(rows, 10))

    def test_packets_that_come_twice_do_not_count_twice(self):
        octets = group_bytes(24, 7)
        made = packets(octets, s=8, k=2)
        calls = [lay(100)] + [take(5, made[which]) for which in (4, 4, 1, 4, 1)] + [hand(5), take(5, made[3]), hand(5)]
        self.assertEqual(told(calls)[1:], [[0], [1], [0], [1], [1], [0], [0], handed(octets)])

    def test_the_last_data_packet_need_not_be_filled_with_zeros(self):
        octets = group_bytes(21, 8)
        made = packets(octets, s=8, k=3, fill=171)
        for chosen in itertools.combinations(made, 3):
            self.check(octets, chosen)

    def test_one_fewer_is_not_enough(self):
        octets = group_bytes(40, 10)
        made = packets(octets, s=8, k=5)
        for chosen in itertools.combinations(made, 4):
            calls = [lay(100)] + [take(5, packet) for packet in chosen] + [hand(104), hand(105)]
            self.assertEqual(told(calls)[-2:], [[0], [2, 0]])


if __name__ == "__main__":
    unittest.main()
