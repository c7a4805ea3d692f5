"""Points 48 and 49: tallies."""

import random
import unittest

from waitworks.counts import (
    Tally, endless, goings, is_at_least, least_of, merged, most_of, shifted, tally, tally_behind, together,
)
from waitworks.errors import InvalidTally
from waitworks.rows import Row, empty, is_at_most, unit
from waitworks.sums import behind, greatest, least

from models import ANY_VALUES, error_of, some_row, things

TIMES = range(-40, 120)
SAW, LINE = Row([0, 2], [5, 6], 4), Row([], [0], 3)


def some_tally(rng, most=4, low=-9, ends=0.25):
    """A tally by chance, also not in its least form."""
    if rng.random() < 0.05:
        return Tally(None, [], (), 0, 0)
    told, time = rng.randint(0, 3), rng.randint(low, 5)
    under, first, again = told, [], []
    for _ in range(rng.randint(0, 4)):
        told, time = told + rng.randint(1, most), time + rng.randint(1, 5)
        first.append((time, told))
    if rng.random() < ends:
        if first and rng.random() < 0.5:
            first[-1] = (first[-1][0], None)
        else:
            first.append((time + 1, None))
        return Tally(under, first, [], 0, 0)
    for _ in range(rng.randint(1, 4)):
        told, time = told + rng.randint(1, most), time + rng.randint(1, 5)
        again.append((time, told))
    turn = again[-1][0] - again[0][0] + rng.randint(1, 5)
    more = again[-1][1] - again[0][1] + rng.randint(1, most)
    return Tally(under, first, again, turn, more)


def by_hand(under, first, again, turn, more, time):
    """What steps tell at a time."""
    steps = list(first)
    if again:
        for at in range(200):
            steps += [(when + at * turn, told + at * more) for when, told in again]
    told = [told for when, told in steps if when <= time]
    return told[-1] if told else under


def told(counts, times=TIMES):
    return [counts.by(time) for time in times]


def row_told(row, times=TIMES):
    return [row.count(time) for time in times]


class TallyTest(unittest.TestCase):
    def test_by(self):
        rng = random.Random(111)
        for _ in range(200):
            counts = some_tally(rng)
            for time in TIMES:
                self.assertEqual(counts.by(time=time), by_hand(counts.under, counts.first, counts.again, counts.turn, counts.more, time))

    def test_least_form(self):
        rng = random.Random(112)
        seen = 0
        for _ in range(300):
            counts = some_tally(rng, most=rng.choice([1, 2]))
            if not counts.again:
                continue
            again = [(time + at * counts.turn, there + at * counts.more) for at in range(12) for time, there in counts.again]
            turns, begin = rng.randint(1, 3), rng.randint(0, 5)
            many = turns * len(counts.again)
            other = Tally(counts.under, [*counts.first, *again[:begin]], tuple(again[begin:begin + many]), turns * counts.turn, turns * counts.more)
            self.assertEqual(other, counts)
            self.assertEqual((other.first, other.again, other.turn, other.more), (counts.first, counts.again, counts.turn, counts.more))
            seen += begin + turns > 1
            # No fewer steps tell the same.
            for k in range(1, len(counts.again)):
                if len(counts.again) % k == 0 and counts.turn * k % len(counts.again) == 0:
                    short = [(time + counts.turn * k // len(counts.again)) for time, _ in counts.again[:-k]]
                    same = short == [time for time, _ in counts.again[k:]]
                    grow, rest = divmod(counts.more * k, len(counts.again))
                    same = same and not rest and [there + grow for _, there in counts.again[:-k]] == [there for _, there in counts.again[k:]]
                    self.assertFalse(same)
        self.assertGreater(seen, 150)
        counts = Tally(1, [(0, 3), (4, 4)], [(6, 5), (8, 6)], 4, 2)
        self.assertEqual((counts.under, counts.first, counts.again, counts.turn, counts.more), (1, ((0, 3),), ((4, 4),), 2, 1))
        self.assertEqual(counts, Tally(under=1, first=((0, 3),), again=[(4, 4)], turn=2, more=1))
        self.assertEqual(Tally(0, [], [(3, 1)], 5, 1).first, ())

    def test_equal(self):
        rng = random.Random(113)
        some = [some_tally(rng, most=1) for _ in range(60)]
        for one in some:
            for other in some:
                self.assertIs(one == other, told(one, range(-20, 90)) == told(other, range(-20, 90)))
            for value in ANY_VALUES:
                self.assertFalse(one == value)
        self.assertRaises(TypeError, list, some[0])

    def test_rate(self):
        self.assertEqual(Tally(0, [], [(0, 1), (1, 4)], 6, 4).rate, (2, 3))
        self.assertIsNone(Tally(None, [], [], 0, 0).rate)
        self.assertIsNone(Tally(0, [(5, None)], [], 0, 0).rate)
        self.assertIsInstance(vars(Tally)["rate"], property)

    def test_far_out(self):
        counts = Tally(2, [(-5, 4)], [(0, 10 ** 4), (7, 10 ** 4 + 3)], 9, 5)
        self.assertEqual(counts.by(10 ** 15), 10 ** 4 + 5 * (10 ** 15 // 9) + (3 if 10 ** 15 % 9 >= 7 else 0))
        self.assertEqual((counts.by(-10 ** 15), counts.by(-6), counts.by(-5), counts.by(-1), counts.by(0)), (2, 2, 4, 4, 10 ** 4))

    def test_wrong_arguments(self):
        good = (1, [(0, 3)], [(4, 4)], 2, 1)
        for at, word in enumerate(("under", "first", "again", "turn", "more")):
            for value in ANY_VALUES:
                given = good[:at] + (value,) + good[at + 1:]
                if (at, value) in ((0, 0), (0, 1), (1, []), (1, ()), (3, 10 ** 15), (4, 10 ** 15)) and not isinstance(value, bool):
                    Tally(*given)
                elif word in ("turn", "more") and value == 1 and not isinstance(value, bool):
                    Tally(*given)
                elif at == 0 and (value is None or value == 10 ** 15):
                    self.assertEqual(error_of(self, InvalidTally, Tally, *given).word, "first")
                else:
                    self.assertEqual(error_of(self, InvalidTally, Tally, *given).word, word)
        for given, word in (
            ((-1, None, None, None, None), "under"), ((True, [], [], 0, 0), "under"), ((10 ** 15, [], [(0, 10 ** 15 + 1)], 1, 1), None),
            ((3, [(0, 3)], [(4, 4)], 2, 1), "first"), ((0, [(0, 1), (0, 2)], [(4, 4)], 2, 1), "first"), ((0, [(0, 2), (1, 2)], [(4, 4)], 2, 1), "first"),
            ((0, [(0, None), (1, 2)], [], 0, 0), "first"), ((0, [[0, 1]], [(4, 4)], 2, 1), "first"), ((0, [(0, 1, 2)], [(4, 4)], 2, 1), "first"),
            ((0, [(0, True)], [(4, 4)], 2, 1), "first"), ((0, [(None, 1)], [(4, 4)], 2, 1), "first"), ((0, [(0, -1)], [(4, 4)], 2, 1), "first"),
            ((0, [(0, None), (1, None)], [], 0, 0), "first"), ((None, [(0, None)], [], 0, 0), "first"), ((0, [(0, 0)], [(4, 4)], 2, 1), "first"),
            ((0, [(0, 1)], [], 0, 0), "again"), ((0, [], [], 0, 0), "again"), ((0, [], [], 1, 1), "again"), ((None, [], [(0, 1)], 1, 1), "again"),
            ((0, [(0, None)], [(1, 2)], 1, 1), "again"), ((0, [(0, 1)], [(0, 2)], 1, 1), "again"), ((0, [(0, 1)], [(1, 1)], 1, 1), "again"),
            ((0, [], [(0, 0)], 1, 1), "again"), ((0, [], [(0, 1), (1, None)], 1, 1), "again"), ((0, [], [(0, 1), (1, 1)], 9, 9), "again"),
            ((0, [], [(1, 1), (1, 2)], 9, 9), "again"), ((0, [], [(0, 1)], 0, 1), "turn"), ((0, [], [(0, 1), (3, 2)], 3, 9), "turn"),
            ((0, [], [(0, 1)], -1, 1), "turn"), ((0, [], [(0, 1), (3, 2)], 4, 9), None), ((0, [], [(0, 1)], 1, 0), "more"),
            ((0, [], [(0, 1), (3, 4)], 9, 3), "more"), ((0, [], [(0, 1), (3, 4)], 9, 4), None), ((None, [], [], 1, 0), "turn"),
            ((None, [], [], False, 0), "turn"), ((None, [], [], 0, 1), "more"), ((None, [], [], 0, None), "more"), ((None, (), (), 0, 0), None),
            ((0, [(0, None)], (), 0, 0), None), ((0, [(0, None)], (), 3, 0), "turn"), ((0, [(0, None)], (), 0, 3), "more"), ((0, [(0, None)], None, 0, 3), "again"),
        ):
            if word is None:
                Tally(*given)
            else:
                self.assertEqual(error_of(self, InvalidTally, Tally, *given).word, word, given)


class RowTest(unittest.TestCase):
    def test_there_and_back(self):
        rng = random.Random(114)
        for _ in range(300):
            row = some_row(rng, low=-8, nothing=0.3, more=rng.choice([0, 6]))
            counts = tally(row=row)
            self.assertEqual(told(counts), row_told(row))
            self.assertEqual(goings(counts=counts), row)
            counts = some_tally(rng)
            self.assertEqual(row_told(goings(counts)), told(counts))
            self.assertEqual(tally(goings(counts)), counts)

    def test_told(self):
        self.assertEqual((tally(SAW).first, tally(SAW).again), (((0, 1),), ((2, 2), (5, 3))))
        self.assertEqual([tally(SAW).by(time) for time in (-1, 6, 10 ** 15)], [0, 4, 500000000000000])
        self.assertEqual(str(goings(Tally(1, [(0, 3)], [(4, 4)], 2, 1))), "- 0 0 | 4 + 2")
        self.assertEqual(tally(unit()).first, ((0, None),))
        self.assertEqual((tally(empty()), goings(endless())), (endless(), empty()))
        self.assertEqual((endless().under, endless().first, endless().again, endless().turn, endless().more), (None, (), (), 0, 0))
        self.assertIsNone(endless().by(-10 ** 15))
        # The last going of a turn can be at the time of the first one of the next turn.
        self.assertEqual(goings(tally(Row([0, 0], [0, 1, 3], 3))), Row([0, 0], [0, 1, 3], 3))

    def test_great_counts(self):
        counts = Tally(0, [(0, 5000)], [(3, 9000), (5, 10000)], 7, 4000)
        row = goings(counts)
        self.assertEqual(tally(row), counts)
        self.assertEqual([row.time(n) for n in (0, 4999, 5000, 8999, 9000, 9999, 10000)], [0, 0, 3, 3, 5, 5, 10])


class SumTest(unittest.TestCase):
    def check(self, counts, wanted):
        self.assertIsInstance(counts, Tally)
        self.assertEqual(told(counts), wanted)
        self.assertEqual(goings(tally(goings(counts))), goings(counts))

    def test_by_hand(self):
        rng = random.Random(115)
        for _ in range(150):
            some = [some_tally(rng) for _ in range(rng.randint(1, 3))]
            pick = lambda ask: [ask([counts.by(time) for counts in some]) for time in TIMES]
            self.check(together(tallies=some), pick(lambda there: None if None in there else sum(there)))
            self.check(most_of(tallies=some), pick(lambda there: None if None in there else max(there)))
            self.check(least_of(tallies=tuple(some)), pick(lambda there: min([one for one in there if one is not None], default=None)))
            self.assertEqual(together(some[:1]), some[0])
            # The greatest of rows is counted by the least of tallies.
            rows = [goings(counts) for counts in some]
            self.assertEqual(least_of(some), tally(greatest(rows)))
            self.assertEqual(most_of(some), tally(least(rows)))

    def test_merged(self):
        rng = random.Random(116)
        for _ in range(150):
            rows = [some_row(rng, low=-5, nothing=0.2, more=rng.choice([0, 3, 6])) for _ in range(rng.randint(1, 3))]
            found = merged(rows=rows)
            if any([row == empty() for row in rows]):
                self.assertEqual(found, empty())
                continue
            goings_ = sorted([(time is not None, time or 0) for row in rows for time in things(row, 80)])
            wanted = [time if there else None for there, time in goings_]
            self.assertEqual(things(found, 40), wanted[:40])
        self.assertEqual(str(merged([LINE, Row([], [1], 3)])), "| 0 1 + 3")
        self.assertEqual(merged([unit(), LINE]), unit())
        self.assertEqual(merged([LINE, empty()]), empty())

    def test_shifted(self):
        rng = random.Random(117)
        for _ in range(100):
            counts, marks, lasts = some_tally(rng), rng.randint(0, 5), rng.randint(0, 9)
            wanted = [None if there is None else there + marks for there in told(counts, range(-40 - lasts, 120 - lasts))]
            self.check(shifted(counts=counts, marks=marks, lasts=lasts), wanted)
        self.assertEqual(shifted(endless(), 10 ** 4, 10 ** 4), endless())

    def test_tally_behind(self):
        rng = random.Random(118)
        for _ in range(150):
            one, other = some_tally(rng, low=-4), some_tally(rng, low=-4)
            wanted = []
            for time in range(-20, 40):
                sums = [(one.by(u), other.by(time - u - 1)) for u in range(-60, 90)]
                wanted.append(min([a + b for a, b in sums if a is not None and b is not None], default=None))
            self.assertEqual(told(tally_behind(one=one, other=other), range(-20, 40)), wanted)
        for _ in range(100):
            one, other = some_row(rng, low=-4, nothing=0.2), some_row(rng, low=-4, nothing=0.2)
            self.assertEqual(tally_behind(tally(one), tally(other)), tally(behind(one, other)))
        self.assertEqual(tally_behind(tally(LINE), tally(SAW)), tally(behind(LINE, SAW)))
        self.assertEqual(tally_behind(tally(LINE), endless()), endless())

    def test_is_at_least(self):
        rng = random.Random(119)
        seen = {True: 0, False: 0}
        for _ in range(300):
            one, other = some_tally(rng, most=2), some_tally(rng, most=2)
            if rng.random() < 0.3:
                other = least_of([one, other])
            wanted = is_at_most(goings(one), goings(other))
            self.assertIs(is_at_least(one=one, other=other), wanted)
            near = all([a is None or (b is not None and a >= b) for a, b in zip(told(one), told(other))])
            self.assertTrue(near or not wanted)
            seen[wanted] += 1
        self.assertGreater(min(seen.values()), 60)
        self.assertIs(is_at_least(endless(), tally(SAW)), True)
        self.assertIs(is_at_least(tally(SAW), endless()), False)
        self.assertIs(is_at_least(tally(Row([], [900], 3)), tally(Row([], [0], 4))), False)
        self.assertIs(is_at_least(tally(Row([], [0], 3)), tally(Row([], [900], 4))), True)

    def test_unlike_rates_far_out(self):
        slow, quick = tally(Row([], [0], 999)), tally(Row([0] * 30, [998], 998))
        found = most_of([slow, quick])
        self.assertEqual(found, quick)
        other = least_of([tally(Row([-999] * 3, [0], 999)), tally(Row([], [999], 998))])
        self.assertEqual(other.rate, (1, 999))
        for time in (-999, -1, 0, 998, 999, 10 ** 5, 10 ** 6, 10 ** 6 + 10 ** 5, 10 ** 9):
            self.assertEqual(other.by(time), min(tally(Row([-999] * 3, [0], 999)).by(time), tally(Row([], [999], 998)).by(time)))


if __name__ == "__main__":
    unittest.main()
