"""The call cut: its answer's form, the packet's table, the CRC, the repair packets, its refusals."""

import unittest

from groupstream.checksum import checksum
from groupstream.field import inverse, product
from tests import helper
from tests.helper import cut, hand, last, lay, packets, take, told

EXAMPLE = [7, 1, 0, 0, 0, 0, 0, 0, 0, 2, 0, 0, 0, 65, 66]


def rows_of(answer):
    rows = []
    place = 3
    while place < len(answer):
        rows.append(answer[place + 1:place + 1 + answer[place]])
        place += 1 + answer[place]
    return rows


class TheExample(unittest.TestCase):
    def test_the_data_and_repair_packets(self):
        answer = last([cut(0, 8, 1, 5, EXAMPLE)])
        self.assertEqual(answer[:3], [0, 2, 3])
        head = [76, 119, 110, 49, 0, 0, 0, 0]
        tail = [2, 1, 0, 15, 0, 0, 0, 8, 0, 0, 0, 5, 0, 0, 0, 0, 0, 0, 0]
        bodies = [[7, 1, 0, 0, 0, 0, 0, 0], [0, 2, 0, 0, 0, 65, 66, 0], [164, 127, 0, 0, 0, 204, 78, 0]]
        rows = rows_of(answer)
        self.assertEqual(len(rows), 3)
        for which, row in enumerate(rows):
            self.assertEqual(row[:36], head + [which] + tail + bodies[which])
            self.assertEqual(row[36:], helper.low_first(helper.slow_crc(row[:36]), 4))

    def test_the_weights(self):
        self.assertEqual(inverse(128), 131)
        self.assertEqual(inverse(129), 126)


class TheParts(unittest.TestCase):
    def test_the_crc_of_known_texts(self):
        self.assertEqual(checksum(list(b"123456789")), 0xE3069283)
        self.assertEqual(checksum([0] * 32), 0x8A9136AA)
        self.assertEqual(checksum([255] * 32), 0x62A8AB43)
        self.assertEqual(checksum(list(range(32))), 0x46DD794E)

    def test_the_crc_goes_the_other_way_too(self):
        for size in (0, 1, 2, 29, 92):
            octets = [(size * 31 + at * 77) % 256 for at in range(size)]
            self.assertEqual(checksum(octets), helper.slow_crc(octets))
            self.assertEqual(checksum(octets), helper.crc(octets))

    def test_the_field(self):
        for left in range(256):
            for right in range(0, 256, 5):
                self.assertEqual(product(left, right), helper.times(left, right))
        for value in range(1, 256):
            self.assertEqual(product(value, inverse(value)), 1)


class ThePackets(unittest.TestCase):
    def test_packets_of_many_shapes(self):
        shapes = [(1, 1, 0), (1, 1, 16), (16, 1, 16), (5, 4, 3), (8, 4, 2), (9, 4, 2), (64, 64, 1), (65, 64, 2),
                  (1024, 64, 16), (961, 64, 16), (960, 64, 0), (33, 7, 5)]
        for size, s, k in shapes:
            octets = [(at * 59 + size) % 256 for at in range(size)]
            answer = last([cut(77777, s, k, 123456789012345, octets)])
            expected = packets(octets, 77777, s, k, 123456789012345)
            self.assertEqual(answer[:3], [0, -(-size // s), -(-size // s) + k])
            self.assertEqual(rows_of(answer), expected)

    def test_the_number_of_data_packets_is_the_least(self):
        for size in range(1, 17):
            self.assertEqual(last([cut(0, 4, 0, 0, [9] * size)])[1], (size + 3) // 4)

    def test_bytes_need_not_be_parts(self):
        self.assertEqual(rows_of(last([cut(3, 1, 0, 0, [200])])), packets([200], 3, 1, 0))

    def test_cut_asks_for_no_receiver_and_changes_none(self):
        first, second = packets(EXAMPLE, s=8, k=0)
        with_cut = told([lay(9), take(5, first), cut(0, 8, 1, 5, EXAMPLE), take(6, second), hand(6), hand(6)])
        without = told([lay(9), take(5, first), take(6, second), hand(6), hand(6)])
        self.assertEqual(with_cut[:2] + with_cut[3:], without)


class TheRefusals(unittest.TestCase):
    def check_edge(self, inside, outside):
        self.assertEqual(last([inside])[0], 0)
        self.assertEqual(last([outside]), [-1])

    def test_group(self):
        self.check_edge(cut(2 ** 32 - 1, 8, 1, 5, [1]), cut(2 ** 32, 8, 1, 5, [1]))
        self.assertEqual(last([cut(helper.GREATEST, 8, 1, 5, [1])]), [-1])

    def test_s(self):
        self.check_edge(cut(0, 1, 1, 5, [1]), cut(0, 0, 1, 5, [1]))
        self.check_edge(cut(0, 64, 1, 5, [1]), cut(0, 65, 1, 5, [1]))
        self.assertEqual(last([cut(0, helper.GREATEST, 1, 5, [1])]), [-1])
        self.assertEqual(last([cut(0, 0, 1, 5, [])]), [-1])

    def test_k(self):
        self.check_edge(cut(0, 8, 16, 5, [1]), cut(0, 8, 17, 5, [1]))
        self.check_edge(cut(0, 8, 0, 5, [1]), cut(0, 8, helper.GREATEST, 5, [1]))

    def test_sent(self):
        self.check_edge(cut(0, 8, 1, 2 ** 50 - 1, [1]), cut(0, 8, 1, 2 ** 50, [1]))
        self.assertEqual(last([cut(0, 8, 1, helper.GREATEST, [1])]), [-1])

    def test_no_bytes(self):
        self.check_edge(cut(0, 8, 1, 5, [0]), cut(0, 8, 1, 5, []))

    def test_more_than_sixteen_data_packets(self):
        self.check_edge(cut(0, 8, 1, 5, [1] * 128), cut(0, 8, 1, 5, [1] * 129))
        self.check_edge(cut(0, 1, 1, 5, [1] * 16), cut(0, 1, 1, 5, [1] * 17))
        self.check_edge(cut(0, 64, 1, 5, [1] * 1024), cut(0, 64, 1, 5, [1] * 1025))
        self.assertEqual(last([cut(0, 64, 1, 5, [1] * 2000)]), [-1])

    def test_the_greatest_numbers_reach_the_packet(self):
        row = rows_of(last([cut(2 ** 32 - 1, 1, 0, 2 ** 50 - 1, [255])]))[0]
        self.assertEqual(row[4:8], [255] * 4)
        self.assertEqual(row[20:28], [255] * 6 + [3, 0])


if __name__ == "__main__":
    unittest.main()
