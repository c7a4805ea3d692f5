"""Rows with many first times: what is reckoned with them by few lines holds all the same."""

import random
import unittest

from waitworks.faces import face, out
from waitworks.houses import House, Module
from waitworks.lines import FEW, ONCE, lines_of
from waitworks.partners import partner
from waitworks.rows import Row, empty, is_empty, later, nothings
from waitworks.sums import behind, greatest, star, sum_at

from models import some_row, things, walk


def long_row(rng):
    """A row by chance that goes at one pace for long, and then at a quicker one."""
    rows = []
    for _ in range(rng.randint(2, 3)):
        turn = rng.randint(1, 6)
        times = sorted([rng.randint(0, 20) for _ in range(turn)])
        grow = max(20 * turn + rng.randint(-1, 2), times[-1] - times[0])
        late = rng.choice([0, 100, 300])
        rows.append(Row([], [time + late for time in times], grow))
    row = greatest(rows)
    return later(row, rng.randint(1, 4), rng.randint(-5, 5)) if rng.random() < 0.3 else row


def told(lines, many):
    """The first things that lines tell."""
    found = [None] * many
    for (turn, more), begins in lines.items():
        for n, time in begins:
            while n < many:
                found[n] = time if found[n] is None else max(time, found[n])
                if turn == 0:
                    break
                n, time = n + turn, time + more
    for n in range(1, many):
        if found[n] is None or (found[n - 1] is not None and found[n - 1] > found[n]):
            found[n] = found[n - 1]
    return found


class LinesTest(unittest.TestCase):
    def test_lines(self):
        rng = random.Random(161)
        seen = 0
        for _ in range(120):
            row = long_row(rng) if rng.random() < 0.6 else some_row(rng, nothing=0.3, more=rng.choice([0, 6]))
            many = len(row.first) + 4 * len(row.again)
            lines = lines_of(row)
            self.assertEqual(told(lines, many), things(row, many))
            if len(row.first) > FEW:
                seen += 1
                self.assertLess(len(lines[ONCE]), 60)
        self.assertGreater(seen, 20)
        self.assertEqual(lines_of(empty()), {})

    def test_rows_without_lines(self):
        rng = random.Random(162)
        times = sorted([rng.randint(0, 10 ** 6) for _ in range(400)])
        row = Row(times, [10 ** 6], 9)
        self.assertEqual(told(lines_of(row), 500), things(row, 500))

    def test_sums_and_partners(self):
        rng = random.Random(163)
        for _ in range(40):
            one, other = long_row(rng), long_row(rng)
            both, left = behind(one, other), partner(one, other)
            for n in (0, 1, 2, 5, 100, 333, 600, 1000):
                sums = [(one.time(k), other.time(n - k)) for k in range(n + 1)]
                most = max([a + b for a, b in sums if a is not None and b is not None], default=None)
                self.assertEqual((both.time(n), sum_at(one, other, n)), (most, most))
                start, far = nothings(other), max(len(one.first), len(other.first)) + 60
                if one.rate[0] * other.rate[1] < other.rate[0] * one.rate[1]:
                    self.assertTrue(is_empty(left))
                elif one.time(n + start) is None:
                    self.assertIsNone(left.time(n))
                else:
                    self.assertEqual(left.time(n), min([one.time(n + k) - other.time(k) for k in range(start, far)]))

    def test_sums_far_out(self):
        rng = random.Random(164)
        for _ in range(100):
            one, other = some_row(rng, nothing=0.3), some_row(rng, nothing=0.3)
            both = behind(one, other)
            for n in (10 ** 15, 10 ** 15 + 7, 10 ** 9):
                self.assertEqual(sum_at(one, other, n), both.time(n))

    def test_stars(self):
        rng = random.Random(165)
        for _ in range(20):
            row = long_row(rng)
            row = later(row, 2, -row.time(nothings(row)))
            times = [0 if n == 0 else max(0, row.time(n) or 0) for n in range(150)]
            for n in range(150):
                times[n] = max([times[n]] + [times[k] + times[n - k] for k in range(1, n)])
            self.assertEqual(things(star(row), 150), times)

    def test_faces(self):
        # Two rings of nearly one pace: the quicker one is ahead only far out.
        links = [("i", "s", 0, 0), ("s", "s", 1, 9998), ("s", "o", 0, 9999), ("s", "t", 1, 0), ("t", "t", 2, 19998), ("t", "o", 0, 0), ("t", "s", 1, 3)]
        house = House([Module("m", ["i"], ["o"], ["s", "t"], links)])
        told_ = face(house, "m")
        self.assertGreater(len(told_.clock[0].first), 5000)
        arrivals = [Row([3], [10 ** 4, 10 ** 5], 10 ** 6)]
        self.assertEqual(things(out(told_, arrivals)[0], 400), walk(house, "m", arrivals, 400)["o"])


if __name__ == "__main__":
    unittest.main()
