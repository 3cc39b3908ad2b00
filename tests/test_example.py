"""The document's example, whole."""

import unittest

from groupstream.receiver import answers
from tests.helper import clock, cut, hand, jump, last, lay, missing, one_packet, part, take, told


def example_rows():
    answer = last([cut(0, 8, 1, 5, part(7, 1, [65, 66]))])
    return [answer[at + 1:at + 41] for at in (3, 44, 85)]


class TheExample(unittest.TestCase):
    def test_each_answer_in_its_place(self):
        rows = example_rows()
        calls = [lay(100), take(1000, rows[2]), take(1010, rows[1]), missing(0), clock(500), hand(1010, 100),
                 hand(1010, 100), take(2000, one_packet(2)), hand(2099, 100), hand(2100, 100)]
        self.assertEqual(told(calls), [[0], [0], [0], [0, 0, 2, 1, 2], [0, 1495], [1, 0, 7, 1, 2, 65, 66], [0], [0],
                                       [0], [2, 1]])

    def test_as_one_list(self):
        rows = example_rows()
        line = lay(100) + take(1000, rows[2]) + missing(0) + take(1010, rows[1]) + missing(0) + clock(500)
        line += missing(1) + clock(2 ** 50) + jump(0) + jump(1)
        self.assertEqual(answers(line), [1, 0, 1, 0, 4, 0, 1, 1, 2, 1, 0, 5, 0, 0, 2, 1, 2, 2, 0, 1495, 1, -2, 1, -1,
                                         1, -1, 1, 0])

    def test_the_one_point(self):
        # Of the packets' two points, (5, 995) and (5, 1005), the one with the lesser d counts, whichever came first.
        rows = example_rows()
        self.assertEqual(last([lay(100), take(1010, rows[1]), clock(500)]), [0, 1505])
        self.assertEqual(last([lay(100), take(1010, rows[1]), take(1000, rows[2]), clock(500)]), [0, 1495])


class WithoutAReceiver(unittest.TestCase):
    def test_minus_9(self):
        asked = [jump(1), jump(0), jump(2 ** 32 + 1), missing(0), clock(0), clock(2 ** 50)]
        self.assertEqual(told(asked), [[-9]] * 6)
        self.assertEqual(told([lay(2 ** 40 + 1)] + asked), [[-1]] + [[-9]] * 6)
        self.assertEqual(told(asked + [lay(2 ** 40)] + asked),
                         [[-9]] * 6 + [[0], [0], [-1], [-1], [-2], [-2], [-1]])


if __name__ == "__main__":
    unittest.main()
