"""Point 7, and of point 8 what compares: rows put together."""

import random
import unittest

from waitworks.errors import InvalidRow
from waitworks.rows import Row, empty, first_above, is_at_most, later, unit
from waitworks.sums import behind, greatest, least, star

from models import some_row, things

MANY = 90
FAR = 10 ** 15


def greatest_of(some):
    known = [thing for thing in some if thing is not None]
    return max(known) if known else None


def least_of(some):
    return None if None in some else min(some)


def plus(one, other):
    return None if one is None or other is None else one + other


def is_above(one, other):
    return one is not None and (other is None or one > other)


def some_rows(seed, many):
    rng = random.Random(seed)
    for _ in range(many):
        yield [empty() if rng.random() < 0.05 else some_row(rng, low=-9, high=9, nothing=0.4) for _ in range(3)]


class SumsTest(unittest.TestCase):
    def test_greatest_and_least(self):
        for rows in some_rows(1, 150):
            columns = list(zip(*[things(row, MANY) for row in rows]))
            self.assertEqual(things(greatest(rows), MANY), [greatest_of(column) for column in columns])
            self.assertEqual(things(least(tuple(rows)), MANY), [least_of(column) for column in columns])
            for n in range(FAR, FAR + 6):
                column = [row.time(n) for row in rows]
                self.assertEqual(greatest(rows=rows).time(n), greatest_of(column))
                self.assertEqual(least(rows=rows).time(n), least_of(column))

    def test_greatest_and_least_told(self):
        saw, line = Row([0, 2], [5, 6], 4), Row([], [0], 3)
        self.assertEqual(str(greatest([line, Row([], [5], 2)])), "5 7 9 11 13 | 15 + 3")
        self.assertEqual(str(least([line, saw])), "0 | 2 5 + 4")
        self.assertEqual(str(greatest([Row([], [0, 1], 4), Row([], [0, 0, 4], 6)])), "| 0 1 4 6 8 10 + 12")
        self.assertEqual(str(least([Row([], [0, 1], 4), Row([], [0, 0, 4], 6)])), "| 0 0 4 5 6 9 + 12")
        self.assertEqual(greatest([saw]), saw)
        self.assertEqual(least((saw,)), saw)
        self.assertEqual(greatest([empty(), empty()]), empty())
        self.assertEqual(greatest([empty(), saw]), saw)
        self.assertEqual(least([empty(), saw]), empty())
        self.assertEqual(str(greatest([Row([None, None], [9], 1), Row([None], [4], 2)])), "- 4 9 10 11 | 12 + 2")
        self.assertEqual(str(least([Row([None, None], [9], 1), Row([None], [4], 2)])), "- - 6 8 10 | 12 + 1")

    def test_turns_that_meet_far_out(self):
        slow, fast = Row([], [999], 998), Row([-999] * 30, [-999], 999)
        top, low = greatest([slow, fast]), least([slow, fast])
        meet = first_above(fast, slow)
        self.assertEqual(meet, 999 + 999 + 999 * 30 + 1)
        for n in (0, 30, meet - 2, meet - 1, meet, meet + 1, FAR):
            self.assertEqual(top.time(n), max(slow.time(n), fast.time(n)))
            self.assertEqual(low.time(n), min(slow.time(n), fast.time(n)))
        self.assertEqual((len(top.first), top.again, top.more), (meet - 1, (slow.time(meet - 1),), 999))
        self.assertEqual((len(low.first), low.again, low.more), (meet - 1, (slow.time(meet - 1),), 998))

    def test_behind(self):
        for one, other, _ in some_rows(2, 150):
            left, right = things(one, MANY), things(other, MANY)
            wanted = [greatest_of([plus(left[at], right[n - at]) for at in range(n + 1)]) for n in range(MANY)]
            self.assertEqual(things(behind(one, other), MANY), wanted)
            self.assertEqual(behind(one=other, other=one), behind(one, other))

    def test_behind_far_out(self):
        for one, other, _ in some_rows(3, 60):
            both = behind(one, other)
            for n in range(FAR, FAR + 4):
                near = [plus(one.time(at), other.time(n - at)) for at in range(80)]
                back = [plus(one.time(n - at), other.time(at)) for at in range(80)]
                self.assertEqual(both.time(n), greatest_of(near + back))

    def test_behind_told(self):
        self.assertEqual(str(behind(Row([], [0], 2), Row([], [1], 3))), "| 1 + 3")
        self.assertEqual(str(behind(Row([], [0, 0], 4), Row([], [0, 0, 0], 6))), "0 0 | 4 + 2")
        for row in (Row([None, 3], [5, 6], 4), empty(), Row([], [-5], 0)):
            self.assertEqual(behind(row, unit()), row)
            self.assertEqual(behind(unit(), row), row)
            self.assertEqual(behind(row, empty()), empty())
            self.assertEqual(behind(empty(), row), empty())
        self.assertEqual(str(behind(Row([None], [1], 5), Row([None, None], [-7], 5))), "- - - | -6 + 5")

    def test_later(self):
        rng = random.Random(4)
        for _ in range(100):
            row, marks, lasts = some_row(rng, low=-5, nothing=0.3), rng.randint(0, 5), rng.randint(0, 9)
            wanted = [None] * marks + [plus(time, lasts) for time in things(row, 30)]
            self.assertEqual(things(later(row, marks, lasts), 30 + marks), wanted)
        self.assertEqual(str(later(Row([], [0], 3), 2, 1)), "- - | 1 + 3")
        self.assertEqual(later(row=empty(), marks=3, lasts=5), empty())
        self.assertEqual(later(unit(), 0, 0), unit())
        self.assertEqual(later(Row([2], [7], 1), 10 ** 4, 10 ** 4).time(10 ** 4), 10 ** 4 + 2)

    def test_star(self):
        seen = 0
        for row, _, _ in some_rows(5, 300):
            times = things(row, MANY)
            if times[0] is not None and times[0] > 0:
                with self.assertRaises(InvalidRow) as caught:
                    star(row)
                self.assertEqual(caught.exception.word, "first")
                continue
            seen += 1
            wanted = []
            for n in range(MANY):
                wanted.append(greatest_of([0] + [plus(times[at], wanted[n - at]) for at in range(1, n + 1)]))
            self.assertEqual(things(star(row), MANY), wanted)
        self.assertGreater(seen, 100)

    def test_star_told(self):
        self.assertEqual(str(star(Row([None], [2], 3))), "0 | 2 + 3")
        self.assertEqual(star(empty()), unit())
        self.assertEqual(star(unit()), unit())
        self.assertEqual(star(Row([], [-3], 0)), unit())
        self.assertEqual(str(star(Row([0, 5], [5]))), "| 0 + 5")
        self.assertEqual(str(star(Row([-1, -1, 5], [5]))), "| 0 0 + 5")
        self.assertEqual(str(star(row=Row([None, None, 4], [7]))), "0 0 | 4 7 8 + 7")
        self.assertEqual(star(Row([None, None, None, 9], [9])).rate, (3, 1))
        self.assertEqual(star(Row([-4, 3, 9], [9], 2)).rate, (9, 2))

    def test_star_far_out(self):
        rng = random.Random(6)
        for _ in range(60):
            row = later(some_row(rng, low=-3, high=12), rng.randint(1, 2), 0)
            whole = star(row)
            for n in range(FAR, FAR + 3):
                near = [plus(row.time(at), whole.time(n - at)) for at in range(1, 60)]
                far = [plus(row.time(n - at), whole.time(at)) for at in range(60)]
                self.assertEqual(whole.time(n), max(time for time in near + far if time is not None))

    def test_star_of_rows_below_their_own_rate(self):
        # No s(i) / i reaches the rate here, so that one step far out beats many small ones.
        for row in (Row([None, 0], [0, 3], 6), Row([None, 1], [1], 2), Row([None], [-20, -19], 4)):
            wanted, times = [], things(row, 80)
            for n in range(80):
                wanted.append(greatest_of([0] + [plus(times[at], wanted[n - at]) for at in range(1, n + 1)]))
            self.assertEqual(things(star(row), 80), wanted)


class ComparedTest(unittest.TestCase):
    def test_first_above(self):
        for one, other, _ in some_rows(7, 300):
            found = [n for n in range(700) if is_above(one.time(n), other.time(n))]
            self.assertEqual(first_above(one, other), found[0] if found else None)
            self.assertIs(is_at_most(one, other), not found)

    def test_told(self):
        saw, line = Row([0, 2], [5, 6], 4), Row([], [0], 3)
        self.assertEqual(first_above(one=line, other=saw), 1)
        self.assertIsNone(first_above(Row([], [0, 2], 5), line))
        self.assertEqual(first_above(Row([], [0, 2], 7), line), 2)
        self.assertIsNone(first_above(empty(), empty()))
        self.assertIsNone(first_above(empty(), line))
        self.assertEqual(first_above(line, empty()), 0)
        self.assertEqual(first_above(Row([None, None], [4], 1), empty()), 2)
        self.assertEqual(first_above(Row([], [5]), Row([None], [9])), 0)
        self.assertIsNone(first_above(Row([None], [9]), Row([None], [9])))
        self.assertIs(is_at_most(one=line, other=line), True)
        self.assertIs(is_at_most(Row([], [1], 3), line), False)

    def test_above_only_far_out(self):
        self.assertEqual(first_above(Row([], [0], 1), Row([], [10 ** 5])), 10 ** 5 + 1)
        self.assertEqual(first_above(Row([], [0, 0], 1), Row([], [10 ** 6])), 2 * 10 ** 6 + 2)
        self.assertEqual(first_above(Row([], [-999] * 12, 1), Row([], [0] * 11, 0)), 12 * 1000)
        self.assertIsNone(first_above(Row([], [0] * 11 + [1], 12), Row([], [0], 1)))


if __name__ == "__main__":
    unittest.main()
