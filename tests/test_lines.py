"""Whole lines of all seven calls by chance: the promises over all of them, and the interface's words on calls and
answers.
"""

import random
import unittest

from groupstream.receiver import answers
from tests import helper
from tests.helper import (Model, clock, cut, hand, jump, lay, missing, one_packet, packets, part, raw_packet, take,
                          told)

SPAN = 131072
LAST = 2 ** 32 - 1
CUT, LAY, TAKE, NEXT, JUMP, MISSING, CLOCK = range(7)


def some_bytes(source):
    octets = []
    for _ in range(source.randint(1, 3)):
        size = source.choice((0, 0, 1, 2, 5))
        octets += part(source.randrange(256), source.randrange(2 ** 64), [source.randrange(256) for _ in range(size)])
    if source.random() < 0.25:
        octets = octets[:source.randint(1, len(octets))]
    return octets


class Pool:
    """Packets of many groups, some with a second group of the same number, and the bytes behind them."""

    def __init__(self, source):
        self.truth = {}
        self.packets = []
        self.sent_begin = source.choice((0, 5 * SPAN, 2 ** 49))
        self.sent_end = self.sent_begin + source.choice((1000, 3 * SPAN, 30 * SPAN, 300 * SPAN, 2 ** 49))
        groups = list(range(source.randint(1, 24))) + list(range(36, 42)) + [LAST - 17, LAST - 1, LAST]
        for group in groups:
            for _ in range(source.choice((1, 1, 1, 2))):
                self.add_group(source, group)

    def add_group(self, source, group):
        octets = some_bytes(source)
        s = source.randint(-(-len(octets) // 4), min(64, len(octets)))
        k = source.randint(0, 3)
        shape = (-(-len(octets) // s), k, s, len(octets))
        if (group, shape) in self.truth:
            return
        self.truth[group, shape] = octets
        for which, packet in enumerate(packets(octets, group, s, k, 0, source.randrange(256))):
            # A packet that is sent again says another time.
            for _ in range(source.choice((1, 1, 2))):
                sent = source.randrange(self.sent_begin, self.sent_end)
                again = raw_packet(group, which, shape[0], k, len(octets), s, sent, packet[28:-4])
                self.packets.append((again, dict(group=group, which=which, shape=shape, sent=sent)))


class Times:
    """The times that are told: slowly on from a first one, or each packet's by what it says in sent."""

    def __init__(self, source):
        self.source = source
        self.by_sent = source.random() < 0.5
        self.offset = source.choice((-70000, 0, 5, 10 ** 6))
        self.late = source.choice((1, 10, 10000))
        self.now = source.choice((source.randrange(100), 2 ** 45))

    def of_packet(self, sent):
        if self.by_sent:
            self.now = min(max(0, sent + self.offset + self.source.randrange(self.late)), helper.TIME_END - 1)
            return self.now
        return self.on()

    def on(self):
        self.now = min(max(0, self.now + self.source.randint(-2, 5)), helper.TIME_END - 1)
        return self.now


def some_group(source, model):
    """A group's number, mostly near next."""
    due = model.due if model.laid else 0
    near = [due - 1, due, due + 1, due + 2, due + 3, due + 15, due + 16, due + 20, source.randrange(40)]
    if source.random() < 0.03:
        near = [LAST - 17, LAST - 16, LAST - 1, LAST, LAST + 1]
    return max(0, source.choice(near))


def some_cut(source):
    octets = [source.randrange(256) for _ in range(source.randint(1, 12))]
    group, s, k, sent = source.randrange(2 ** 32), source.randint(1, 9), source.randint(0, 2), source.randrange(2 ** 50)
    n = -(-len(octets) // s)
    answer = [0, n, n + k]
    for packet in packets(octets, group, s, k, sent):
        answer += [len(packet)] + packet
    return cut(group, s, k, sent, octets), answer


def some_question(source, pool, model):
    if source.random() < 0.5:
        group = some_group(source, model)
        return missing(group), model.missing(group)
    t = source.choice((0, 9, helper.TIME_END - 1, source.randrange(helper.TIME_END),
                       source.randrange(pool.sent_begin, pool.sent_end), source.randrange(pool.sent_begin + 1)))
    return clock(t), model.clock(t)


def refused_call(source, pool, model):
    """A call that is refused whatever was called before it, and what the model answers to it."""
    packet = list(source.choice(pool.packets)[0])
    kind = source.randrange(9)
    if kind == 0:
        wait = source.choice((2 ** 40 + 1, helper.GREATEST))
        return lay(wait), model.lay(wait)
    if kind == 1:
        now = source.choice((2 ** 50, helper.GREATEST))
        return take(now, packet), model.take(now, None)
    if kind == 2:
        packet[source.randrange(len(packet))] ^= 1 << source.randrange(8)
        return take(source.randrange(2 ** 50), packet), model.take(0, None)
    if kind == 3:
        now = source.choice((2 ** 50, helper.GREATEST))
        return hand(now, source.randrange(9)), model.hand(now, 0)
    if kind == 4:
        return cut(0, 1, 1, 0, [1] * 17), [-1]
    if kind == 5:
        return take(0, packet[:-1]), model.take(0, None)
    if kind == 6:
        due = model.due if model.laid else 0
        group = source.choice((0, due, max(0, due - 1), 2 ** 32 + 1, helper.GREATEST))
        return jump(group), model.jump(group)
    if kind == 7:
        group = source.choice((2 ** 32, helper.GREATEST))
        return missing(group), model.missing(group)
    t = source.choice((2 ** 50, helper.GREATEST))
    return clock(t), model.clock(t)


def some_call(source, pool, model, times):
    """A call, and what the model answers to it."""
    kind = source.random()
    if kind < 0.004:
        wait = source.choice((0, 5, 20, 2 ** 40))
        return lay(wait), model.lay(wait)
    if kind < 0.48:
        due = model.due if model.laid else 0
        near = [entry for entry in pool.packets if due - 2 <= entry[1]["group"] < due + 5]
        packet, says = source.choice(near if near and source.random() < 0.9 else pool.packets)
        now = times.of_packet(says["sent"])
        return take(now, packet), model.take(now, says)
    if kind < 0.76:
        now = times.on()
        room = source.choice((0, 1, 4, 5, 2000))
        return hand(now, room), model.hand(now, room)
    if kind < 0.78:
        group = some_group(source, model)
        return jump(group), model.jump(group)
    if kind < 0.88:
        return some_question(source, pool, model)
    if kind < 0.89:
        return some_cut(source)
    return refused_call(source, pool, model)


def some_line(seed):
    """Calls by chance, but the same for one seed, and the model's answers."""
    source = random.Random(seed)
    pool = Pool(source)
    model = Model(pool.truth)
    times = Times(source)
    calls = []
    expected = []
    if source.random() < 0.9:
        wait = source.choice((0, 1, 7, 30))
        calls.append(lay(wait))
        expected.append(model.lay(wait))
    for _ in range(source.randint(20, 199)):
        call, answer = some_call(source, pool, model, times)
        calls.append(call)
        expected.append(answer)
    if sum(len(call) for call in calls) > 19000:
        raise AssertionError("a line that's too long")
    return calls, expected


def changes_nothing(call, answer):
    """Whether a call that is answered so must leave all as it was (but a point, where the document says so)."""
    return call[0] in (CUT, MISSING, CLOCK) or answer[0] in (-1, -2, -3, -9)


def of_the_clock(call, answer):
    return call[0] == CLOCK or (call[0] == TAKE and answer == [-3])


KINDS = [(CUT, 0), (CUT, -1), (LAY, 0), (LAY, -1), (TAKE, 0), (TAKE, 1), (TAKE, 2), (TAKE, 3), (TAKE, -1), (TAKE, -2),
         (TAKE, -3), (TAKE, -9), (NEXT, 0), (NEXT, 1), (NEXT, 2), (NEXT, 3), (NEXT, -1), (NEXT, -7), (NEXT, -9),
         (JUMP, 0), (JUMP, -1), (JUMP, -9), (MISSING, 0), (MISSING, -2), (MISSING, -9), (CLOCK, 0), (CLOCK, -1),
         (CLOCK, -2), (CLOCK, -3), (CLOCK, -9)]


class ByChance(unittest.TestCase):
    def test_against_the_model(self):
        seen = {}
        for seed in range(500):
            calls, expected = some_line(seed)
            found = told(calls)
            self.assertEqual(found, expected, f"seed {seed}")
            for call, answer in zip(calls, found):
                seen[call[0], answer[0]] = seen.get((call[0], answer[0]), 0) + 1
        self.assertEqual(sorted(seen), sorted(KINDS))
        for kind in KINDS:
            self.assertGreater(seen[kind], 20, kind)

    def test_refusals_and_questions_change_nothing(self):
        for seed in range(250):
            calls = some_line(seed)[0]
            both = list(zip(calls, told(calls)))
            self.assert_same([entry for entry in both if not changes_nothing(*entry)], seed)
            # clock hangs on the points of packets that are answered -3: these stay where it's asked.
            self.assert_same([entry for entry in both if not changes_nothing(*entry) or of_the_clock(*entry)], seed)

    def assert_same(self, both, seed):
        if both:
            self.assertEqual(told([call for call, answer in both]), [answer for call, answer in both], f"seed {seed}")

    def test_groups_come_in_order_and_each_once(self):
        for seed in range(250):
            calls = some_line(seed)[0]
            # The group that must come, and whether a part of it was handed on.
            group, begun = 0, False
            for call, answer in zip(calls, told(calls)):
                if call[0] == LAY and answer == [0]:
                    group, begun = 0, False
                if call[0] == JUMP and answer == [0]:
                    self.assertGreater(call[1], group, f"seed {seed}")
                    group, begun = call[1], False
                if call[0] != NEXT or answer[0] not in (1, 2, 3):
                    continue
                if begun and answer[1] == group + 1:
                    group, begun = group + 1, False
                self.assertEqual(answer[1], group, f"seed {seed}")
                self.assertFalse(begun and answer[0] == 2, f"seed {seed}")
                begun = answer[0] == 1
                group += 0 if begun else 1

    def test_answers_hang_on_what_came_before_alone(self):
        for seed in range(40):
            calls = some_line(seed)[0]
            end = random.Random(seed).randint(1, len(calls))
            self.assertEqual(told(calls[:end]), told(calls)[:end])
            self.assertEqual(told(calls), told(calls))


class TheInterface(unittest.TestCase):
    def test_the_list_that_is_handed_in_stays_as_it_was(self):
        for seed in range(30):
            line = [number for call in some_line(seed)[0] for number in call]
            before = list(line)
            answers(line)
            self.assertEqual(line, before)
        line = cut(0, 8, 16, 0, [1] * 20)
        before = list(line)
        answers(line)
        self.assertEqual(line, before)

    def test_what_is_given_back_is_new_each_time(self):
        line = lay(5) + take(5, one_packet(0)) + hand(5)
        first = answers(line)
        expected = list(first)
        first.clear()
        self.assertEqual(answers(line), expected)

    def test_nothing_is_kept_from_one_line_to_the_next(self):
        answers(lay(5) + take(5, one_packet(0)))
        self.assertEqual(answers(hand(5)), [1, -9])
        self.assertEqual(answers(lay(5) + hand(5)), [1, 0, 1, 0])

    def test_how_answers_are_written(self):
        packet = one_packet(0, part(9, 8, [7, 6]))
        line = hand(1) + lay(5) + take(5, packet) + hand(5, 1) + hand(5, 2) + take(5, one_packet(2)) + hand(10)
        line += cut(1, 1, 1, 1, [])
        self.assertEqual(answers(line), [1, -9, 1, 0, 1, 0, 5, -7, 0, 9, 8, 2, 7, 1, 0, 9, 8, 2, 7, 6, 1, 0, 2, 2, 1,
                                         1, -1])
        cut_one = answers(cut(0, 1, 1, 0, [5]))
        self.assertEqual(cut_one[:5], [2 + 2 * 34 + 1, 0, 1, 2, 33])
        self.assertEqual(len(cut_one), 1 + cut_one[0])

    def test_whole_numbers_in_one_list(self):
        found = answers(lay(5) + take(5, one_packet(0)) + missing(0) + missing(1) + clock(5) + hand(5) + hand(5) +
                        cut(0, 3, 3, 3, [1] * 9) + jump(9) + jump(9) + clock(2 ** 50))
        self.assertIs(type(found), list)
        self.assertEqual({type(number) for number in found}, {int})

    def test_one_call_and_two_hundred(self):
        self.assertEqual(told([lay(1)]), [[0]])
        self.assertEqual(told([lay(1)] + [hand(1)] * 199), [[0]] * 200)

    def test_empty_lists_are_read(self):
        self.assertEqual(told([cut(0, 1, 0, 0, []), lay(1), take(1, []), hand(1)]), [[-1], [0], [-2], [0]])

    def test_the_longest_line(self):
        packet = raw_packet(size=64, s=64)
        self.assertEqual(told([lay(1)] + [take(1, packet)] * 190), [[0]] * 2 + [[1]] * 189)


if __name__ == "__main__":
    unittest.main()
