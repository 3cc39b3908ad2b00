"""Whole lines by chance: promises 2, 3 and 6, and what the interface says of calls and answers."""

import random
import unittest

from groupstream.receiver import answers
from tests import helper
from tests.helper import Model, cut, hand, lay, one_packet, packets, part, raw_packet, take, told


def some_bytes(source):
    octets = []
    for _ in range(source.randint(1, 3)):
        size = source.choice((0, 0, 1, 2, 5))
        octets += part(source.randrange(256), source.randrange(2 ** 64), [source.randrange(256) for _ in range(size)])
    if source.random() < 0.25:
        octets = octets[:source.randint(1, len(octets))]
    return octets


class Pool:
    """Packets of many groups, some with a second group of the same number, and the bytes behind them."""

    def __init__(self, source):
        self.truth = {}
        self.packets = []
        groups = list(range(source.randint(1, 24))) + [40, 41, 2 ** 32 - 1]
        for group in groups:
            for _ in range(source.choice((1, 1, 1, 2))):
                self.add_group(source, group)

    def add_group(self, source, group):
        octets = some_bytes(source)
        s = source.randint(-(-len(octets) // 4), min(64, len(octets)))
        k = source.randint(0, 3)
        shape = (-(-len(octets) // s), k, s, len(octets))
        if (group, shape) in self.truth:
            return
        self.truth[group, shape] = octets
        made = packets(octets, group, s, k, source.randrange(2 ** 50), source.randrange(256))
        for which, packet in enumerate(made):
            self.packets.append((packet, dict(group=group, which=which, shape=shape)))


def some_call(source, pool, model, now):
    """A call, and what the model answers to it."""
    kind = source.random()
    if kind < 0.004:
        wait = source.choice((0, 5, 20, 2 ** 40))
        return lay(wait), model.lay(wait)
    if kind < 0.6:
        near = [entry for entry in pool.packets if model.laid and entry[1]["group"] < model.due + 5]
        packet, says = source.choice(near if near and source.random() < 0.8 else pool.packets)
        return take(now, packet), model.take(now, says)
    room = source.choice((0, 1, 4, 5, 2000))
    return hand(now, room), model.hand(now, room)


def refused_call(source, pool):
    packet = list(source.choice(pool.packets)[0])
    kind = source.randrange(6)
    if kind == 0:
        return lay(source.choice((2 ** 40 + 1, helper.GREATEST)))
    if kind == 1:
        return take(source.choice((2 ** 50, helper.GREATEST)), packet)
    if kind == 2:
        packet[source.randrange(len(packet))] ^= 1 << source.randrange(8)
        return take(source.randrange(2 ** 50), packet)
    if kind == 3:
        return hand(source.choice((2 ** 50, helper.GREATEST)), source.randrange(9))
    if kind == 4:
        return cut(0, 1, 1, 0, [1] * 17)
    return take(0, packet[:-1])


def some_line(seed):
    """Calls that are all taken in earnest, the model's answers, and the pool."""
    source = random.Random(seed)
    pool = Pool(source)
    model = Model(pool.truth)
    calls = []
    expected = []
    if source.random() < 0.9:
        wait = source.choice((0, 1, 7, 30))
        calls.append(lay(wait))
        expected.append(model.lay(wait))
    now = source.randrange(100)
    size = sum(len(call) for call in calls)
    for _ in range(source.randint(20, 150)):
        now = max(0, now + source.randint(-2, 5))
        call, answer = some_call(source, pool, model, now)
        size += len(call)
        if size > 16000:
            raise AssertionError("a line that's too long")
        calls.append(call)
        expected.append(answer)
    return source, pool, calls, expected


class ByChance(unittest.TestCase):
    def test_against_the_model(self):
        seen = {}
        for seed in range(400):
            calls, expected = some_line(seed)[2:]
            found = told(calls)
            self.assertEqual(found, expected, f"seed {seed}")
            for call, answer in zip(calls, found):
                seen[call[0], answer[0]] = seen.get((call[0], answer[0]), 0) + 1
        for kind in [(2, 0), (2, 1), (2, 2), (2, 3), (2, -3), (2, -9), (3, 0), (3, 1), (3, 2), (3, 3), (3, -7)]:
            self.assertGreater(seen.get(kind, 0), 50, kind)

    def test_refusals_change_nothing(self):
        for seed in range(150):
            source, pool, calls, expected = some_line(seed)
            mixed = list(zip(calls, expected))
            for _ in range(40):
                mixed.insert(source.randint(0, len(mixed)), (refused_call(source, pool), None))
            found = told([call for call, answer in mixed])
            for (call, answer), given in zip(mixed, found):
                if answer is None:
                    self.assertEqual(len(given), 1)
                    self.assertIn(given[0], (-1, -2, -9))
                else:
                    self.assertEqual(given, answer, f"seed {seed}")

    def test_groups_come_in_order_and_each_once(self):
        for seed in range(200):
            calls = some_line(seed)[2]
            # The group that must come, and whether a part of it was handed on.
            group, begun = 0, False
            for call, answer in zip(calls, told(calls)):
                if call[0] == 1 and answer == [0]:
                    group, begun = 0, False
                if call[0] != 3 or answer[0] not in (1, 2, 3):
                    continue
                if begun and answer[1] == group + 1:
                    group, begun = group + 1, False
                self.assertEqual(answer[1], group, f"seed {seed}")
                self.assertFalse(begun and answer[0] == 2, f"seed {seed}")
                begun = answer[0] == 1
                group += 0 if begun else 1

    def test_answers_hang_on_what_came_before_alone(self):
        for seed in range(40):
            source, pool, calls, expected = some_line(seed)
            end = source.randint(1, len(calls))
            self.assertEqual(told(calls[:end]), told(calls)[:end])
            self.assertEqual(told(calls), told(calls))


class TheInterface(unittest.TestCase):
    def test_the_list_that_is_handed_in_stays_as_it_was(self):
        for seed in range(30):
            line = [number for call in some_line(seed)[2] for number in call]
            before = list(line)
            answers(line)
            self.assertEqual(line, before)
        line = cut(0, 8, 16, 0, [1] * 20)
        before = list(line)
        answers(line)
        self.assertEqual(line, before)

    def test_what_is_given_back_is_new_each_time(self):
        line = lay(5) + take(5, one_packet(0)) + hand(5)
        first = answers(line)
        expected = list(first)
        first.clear()
        self.assertEqual(answers(line), expected)

    def test_nothing_is_kept_from_one_line_to_the_next(self):
        answers(lay(5) + take(5, one_packet(0)))
        self.assertEqual(answers(hand(5)), [1, -9])
        self.assertEqual(answers(lay(5) + hand(5)), [1, 0, 1, 0])

    def test_how_answers_are_written(self):
        packet = one_packet(0, part(9, 8, [7, 6]))
        line = hand(1) + lay(5) + take(5, packet) + hand(5, 1) + hand(5, 2) + take(5, one_packet(2)) + hand(10)
        line += cut(1, 1, 1, 1, [])
        self.assertEqual(answers(line), [1, -9, 1, 0, 1, 0, 5, -7, 0, 9, 8, 2, 7, 1, 0, 9, 8, 2, 7, 6, 1, 0, 2, 2, 1,
                                         1, -1])
        cut_one = answers(cut(0, 1, 1, 0, [5]))
        self.assertEqual(cut_one[:5], [2 + 2 * 34 + 1, 0, 1, 2, 33])
        self.assertEqual(len(cut_one), 1 + cut_one[0])

    def test_whole_numbers_in_one_list(self):
        found = answers(lay(5) + take(5, one_packet(0)) + hand(5) + hand(5) + cut(0, 3, 3, 3, [1] * 9))
        self.assertIs(type(found), list)
        self.assertEqual({type(number) for number in found}, {int})

    def test_one_call_and_two_hundred(self):
        self.assertEqual(told([lay(1)]), [[0]])
        self.assertEqual(told([lay(1)] + [hand(1)] * 199), [[0]] * 200)

    def test_empty_lists_are_read(self):
        self.assertEqual(told([cut(0, 1, 0, 0, []), lay(1), take(1, []), hand(1)]), [[-1], [0], [-2], [0]])

    def test_the_longest_line(self):
        packet = raw_packet(size=64, s=64)
        self.assertEqual(told([lay(1)] + [take(1, packet)] * 190), [[0]] * 2 + [[1]] * 189)


if __name__ == "__main__":
    unittest.main()
