"""Points 51 and 52: heaps and stays."""

import random
import unittest

from waitworks.heaps import (
    Heap, heaps, longest_stay, mean_heap, mean_stay, shortest_stay, stay_of, turn_of, within,
)
from waitworks.rows import Row, empty, later, unit

from models import ANY_VALUES, some_row, things

PAIRS, DONE = Row([], [0, 0], 12), Row([], [5, 9], 12)


def some_pair(rng):
    """Two rows by chance, often of one rate."""
    comes = some_row(rng, low=-6, high=9, nothing=0.2, more=rng.choice([0, 2, 5]))
    kind = rng.random()
    if kind < 0.05:
        return rng.choice([(comes, empty()), (empty(), comes)])
    if kind < 0.2:
        return comes, some_row(rng, low=-6, high=9, nothing=0.2, more=rng.choice([0, 2, 5]))
    if kind < 0.5:
        return comes, later(comes, rng.randint(0, 2), rng.randint(-4, 9))
    turns = rng.randint(1, 3)
    many = turns * len(comes.again)
    grow = turns * comes.more
    again = sorted([rng.randint(0, grow) for _ in range(many)])
    start = rng.randint(-5, 5)
    first = [start] * rng.randint(0, 3)
    return comes, Row(first, [start + time for time in again], grow)


class HeapTest(unittest.TestCase):
    def test_by_hand(self):
        rng = random.Random(121)
        seen = {"none": 0, "grows": 0, "falls": 0, "comes again": 0, "stays": 0, "below 0": 0}
        for _ in range(400):
            comes, goes = some_pair(rng)
            heap = heaps(comes=comes, goes=goes)
            if comes.rate[0] == 0 or goes.rate[0] == 0:
                seen["none"] += 1
                self.assertIsNone(heap)
                continue
            self.assertIsInstance(heap, Heap)
            times = range(-40, 700)
            told = [comes.count(time) - goes.count(time) for time in times]
            self.assertEqual([heap.by(time=time) for time in times], told)
            self.check_form(heap, dict(zip(times, told)))
            seen["grows" if heap.more > 0 else "falls" if heap.more < 0 else "comes again" if heap.again else "stays"] += 1
            seen["below 0"] += min(told) < 0
            for ask, best, never in ((heap.most, max, heap.more > 0), (heap.fewest, min, heap.more < 0)):
                if never:
                    self.assertIsNone(ask())
                else:
                    value = best(told)
                    at = times[told.index(value)]
                    self.assertEqual(ask(), (value, None if at == times[0] else at))
            for _ in range(4):
                start, many = rng.randint(-39, 60), rng.choice([0, 1, rng.randint(0, 70)])
                self.assertEqual(heap.total(time=start, many=many), sum(told[start + 40:start + 40 + many]))
        self.assertGreater(min(seen.values()), 10)

    def check_form(self, heap, told):
        """Steps stand where it changes alone, as few as there can be, in tuples."""
        for steps in (heap.first, heap.again):
            self.assertIsInstance(steps, tuple)
            for time, value in steps:
                self.assertEqual(told[time], value)
                self.assertNotEqual(told[time - 1], value)
        changed = [time for time in range(-39, 600) if told[time] != told[time - 1]]
        ahead = [time for time, _ in heap.first]
        if heap.again:
            self.assertEqual([time for time in changed if time < heap.again[0][0]], ahead)
            self.assertEqual([time for time in changed if 0 <= time - heap.again[0][0] < heap.turn], [time for time, _ in heap.again])
            if heap.first:
                last = (heap.first[-1][0] + heap.turn, heap.first[-1][1] + heap.more)
                self.assertNotEqual(last, heap.again[-1])
            many = len(heap.again)
            for part in range(1, many):
                if many % part == 0 and heap.turn * part % many == 0 and heap.more * part % many == 0:
                    moved = [(time + heap.turn * part // many, value + heap.more * part // many) for time, value in heap.again[:-part]]
                    self.assertNotEqual(tuple(moved), heap.again[part:])
        else:
            self.assertEqual((heap.turn, heap.more), (0, 0))
            self.assertEqual(changed, ahead)

    def test_equal(self):
        rng = random.Random(122)
        pairs = [some_pair(rng) for _ in range(60)]
        some = [heap for heap in [heaps(comes, goes) for comes, goes in pairs] if heap is not None]
        for one in some:
            for other in some:
                same = [one.by(time) for time in range(-30, 150)] == [other.by(time) for time in range(-30, 150)]
                self.assertIs(one == other, same)
            for value in ANY_VALUES:
                self.assertFalse(one == value)
        self.assertRaises(TypeError, list, some[0])
        self.assertEqual(heaps(PAIRS, DONE), heaps(later(PAIRS, 0, 0), Row([5], [9, 17], 12)))

    def test_told(self):
        heap = heaps(PAIRS, DONE)
        self.assertEqual((heap.most(), heap.fewest(), heap.total(0, 12), heap.total(-100, 100)), ((2, 0), (0, None), 14, 0))
        self.assertEqual((heap.under, heap.first, heap.again, heap.turn, heap.more), (0, (), ((0, 2), (5, 1), (9, 0)), 12, 0))
        same = heaps(PAIRS, PAIRS)
        self.assertEqual((same.under, same.first, same.again, same.turn, same.more), (0, (), (), 0, 0))
        self.assertEqual((same.most(), same.fewest(), same.total(-5, 10 ** 10), same.by(7)), ((0, None), (0, None), 0, 0))
        room = heaps(later(PAIRS, 3, 0), PAIRS)
        self.assertEqual((room.most(), room.fewest(), room.total(10 ** 15, 10 ** 10)), ((3, None), (3, None), 3 * 10 ** 10))
        late = heaps(Row([0], [3], 3), Row([0, 0], [3], 3))
        self.assertEqual((late.under, late.first, late.again, late.most(), late.fewest()), (0, ((0, -1),), (), (0, None), (-1, 0)))
        grown = heaps(Row([], [0], 2), Row([], [0], 3))
        self.assertEqual((grown.more, grown.turn, grown.most(), grown.fewest()), (1, 6, None, (0, None)))
        fallen = heaps(Row([], [1], 3), Row([], [0], 2))
        self.assertEqual((fallen.more, fallen.turn, fallen.most(), fallen.fewest()), (-1, 6, (0, None), None))
        for comes, goes in ((unit(), PAIRS), (PAIRS, unit()), (empty(), PAIRS), (PAIRS, Row([1], [9]))):
            self.assertIsNone(heaps(comes, goes))

    def test_far_out(self):
        comes, goes = Row([-999, 7], [11, 12, 500], 998), Row([3], [999, 1000], 777)
        heap = heaps(comes, goes)
        for time in (10 ** 15, 10 ** 15 + 1, -10 ** 15, 10 ** 9 + 7):
            self.assertEqual(heap.by(time), comes.count(time) - goes.count(time))
        start = 10 ** 9
        near = sum([comes.count(time) - goes.count(time) for time in range(start, start + 3000)])
        self.assertEqual(heap.total(start, 3000), near)
        self.assertEqual(heap.total(start - 7000, 10 ** 10), heap.total(start - 7000, 7000) + near + heap.total(start + 3000, 10 ** 10 - 10 ** 4))


class StayTest(unittest.TestCase):
    def test_by_hand(self):
        rng = random.Random(123)
        seen = {"none": 0, "no longest": 0, "no shortest": 0, "both": 0, "means": 0}
        for _ in range(400):
            comes, goes = some_pair(rng)
            for time in (-10, 0, 7, 10 ** 15):
                self.assertEqual(within(comes=comes, goes=goes, time=time), (goes.count(time), comes.count(time)))
            pairs = list(zip(things(comes, 150), things(goes, 150)))
            stays = [None if come is None or go is None else go - come for come, go in pairs]
            self.assertEqual([stay_of(comes=comes, goes=goes, n=n) for n in range(150)], stays)
            known = [stay for stay in stays if stay is not None]
            longest, shortest = longest_stay(comes=comes, goes=goes), shortest_stay(comes=comes, goes=goes)
            if not known:
                seen["none"] += 1
                self.assertEqual((longest, shortest), (None, None))
            else:
                seen["no longest" if longest is None else "no shortest" if shortest is None else "both"] += 1
                if longest is None:
                    self.assertGreater(max(known[-40:]), max(known[:30]))
                else:
                    self.assertEqual(longest, (max(known), stays.index(max(known))))
                if shortest is None:
                    self.assertLess(min(known[-40:]), min(known[:30]))
                else:
                    self.assertEqual(shortest, (min(known), stays.index(min(known))))
            turn = turn_of(comes=comes, goes=goes)
            if comes.rate != goes.rate or comes.rate[0] == 0:
                self.assertEqual((turn, mean_heap(comes, goes), mean_stay(comes, goes)), (None, None, None))
                continue
            seen["means"] += 1
            many, lasts, total = turn
            self.assertEqual(many, [k for k in range(1, 100) if k % len(comes.again) == 0 and k % len(goes.again) == 0][0])
            self.assertEqual((comes.time(90 + many) - comes.time(90), goes.time(90 + many) - goes.time(90)), (lasts, lasts))
            self.assertEqual(total, sum(stays[90:90 + many]))
            # So far out the heaps of a turn have the same sum as its stays.
            self.assertEqual(heaps(comes, goes).total(10 ** 4, lasts), total)
            for value, bottom in ((mean_heap(comes=comes, goes=goes), lasts), (mean_stay(comes=comes, goes=goes), many)):
                self.assertEqual(value[0] * bottom, total * value[1])
                self.assertGreater(value[1], 0)
        self.assertGreater(min(seen.values()), 8)

    def test_told(self):
        self.assertEqual((turn_of(PAIRS, DONE), mean_heap(PAIRS, DONE), mean_stay(PAIRS, DONE)), ((2, 12, 14), (7, 6), (7, 1)))
        self.assertEqual((longest_stay(PAIRS, DONE), shortest_stay(PAIRS, DONE)), ((9, 1), (5, 0)))
        self.assertEqual((mean_heap(DONE, PAIRS), mean_stay(DONE, PAIRS)), ((-7, 6), (-7, 1)))
        self.assertEqual(within(PAIRS, DONE, 7), (1, 2))
        self.assertEqual(within(unit(), Row([], [3], 1), 7), (5, None))
        self.assertEqual((within(unit(), unit(), -1), within(unit(), unit(), 0)), ((0, 0), (None, None)))
        self.assertEqual(stay_of(Row([None], [3], 2), unit(), 0), None)
        self.assertEqual(stay_of(PAIRS, DONE, 10 ** 15 + 1), 9)
        self.assertEqual((longest_stay(unit(), unit()), shortest_stay(unit(), Row([1], [4]))), ((0, 0), (1, 0)))
        self.assertEqual((longest_stay(empty(), unit()), shortest_stay(unit(), empty())), (None, None))
        # What is nothing has no stay: the others count.
        self.assertEqual(longest_stay(Row([None, None], [1], 2), Row([None], [9], 2)), (10, 2))
        self.assertEqual(shortest_stay(Row([], [0], 3), Row([], [99], 4)), (99, 0))
        self.assertEqual(shortest_stay(Row([], [0], 4), Row([], [99], 3)), None)


if __name__ == "__main__":
    unittest.main()
