"""Point 8: partners, and greatest differences."""

import random
import unittest

from waitworks.partners import greatest_difference, partner
from waitworks.rows import Row, empty, first_above, is_at_most, later, unit
from waitworks.sums import behind, greatest

from models import some_row, things


def by_hand(wish, row, n, many):
    """The least gap at n over so many places, None if there is nothing."""
    gaps = []
    for k in range(many):
        if row.time(k) is not None:
            if wish.time(n + k) is None:
                return None
            gaps.append(wish.time(n + k) - row.time(k))
    return min(gaps)


class PartnerTest(unittest.TestCase):
    def test_by_hand(self):
        rng = random.Random(1)
        none = bounded = 0
        for _ in range(300):
            wish, row = some_row(rng, low=-9, high=9, nothing=0.4), some_row(rng, low=-9, high=9, nothing=0.4)
            found = partner(wish, row)
            if wish.rate[0] * row.rate[1] < row.rate[0] * wish.rate[1]:
                none += 1
                self.assertEqual(found, empty())
                continue
            bounded += 1
            self.assertEqual(things(found, 30), [by_hand(wish, row, n, 60) for n in range(30)])
            self.assertEqual(found.time(10 ** 15), by_hand(wish, row, 10 ** 15, 60))
        self.assertGreater(none, 50)
        self.assertGreater(bounded, 50)

    def test_is_the_greatest(self):
        rng = random.Random(2)
        for _ in range(100):
            wish, row = some_row(rng, low=-9, high=9), some_row(rng, low=-9, high=9, nothing=0.3)
            found = partner(wish=wish, row=row)
            self.assertTrue(is_at_most(behind(found, row), wish))
            if found != empty():
                n = rng.randint(0, 9)
                time = -10 ** 6 if found.time(n) is None else found.time(n)
                more = greatest([found, later(Row([], [time + 1]), n, 0)])
                self.assertIsNotNone(first_above(behind(more, row), wish))

    def test_told(self):
        line = Row([], [0], 3)
        self.assertEqual(str(partner(Row([], [10], 5), Row([], [5], 4))), "| 5 + 5")
        self.assertEqual(partner(line, Row([], [5], 4)), empty())
        self.assertIsNone(partner(line, empty()))
        self.assertIsNone(partner(empty(), empty()))
        self.assertEqual(partner(empty(), line), empty())
        self.assertEqual(partner(line, unit()), line)
        self.assertEqual(str(partner(Row([], [0, 1], 6), line)), "| -2 + 3")
        self.assertEqual(str(partner(Row([], [0, 1], 6), Row([], [0, 0], 6))), "| 0 1 + 6")
        self.assertEqual(str(partner(Row([None, None], [9], 3), Row([None], [2], 3))), "- | 7 + 3")
        self.assertEqual(str(partner(Row([None, None], [9], 3), Row([None, None, None], [2], 3))), "| 10 + 3")
        self.assertEqual(str(partner(Row([None], [9], 3), Row([], [2], 1))), "- | 7 + 3")
        self.assertEqual(str(partner(Row([], [0, 6], 6), Row([0, 5], [5], 3))), "| 0 1 + 6")


class DifferenceTest(unittest.TestCase):
    def test_by_hand(self):
        rng = random.Random(3)
        for _ in range(300):
            one, other = some_row(rng, low=-9, high=9, nothing=0.4), some_row(rng, low=-9, high=9, nothing=0.4)
            pairs = [(one.time(n), other.time(n)) for n in range(60) if one.time(n) is not None]
            faster = one.rate[0] * other.rate[1] > other.rate[0] * one.rate[1]
            if faster or None in [pair[1] for pair in pairs]:
                self.assertIsNone(greatest_difference(one, other))
            else:
                self.assertEqual(greatest_difference(one=one, other=other), max(top - low for top, low in pairs))

    def test_told(self):
        line = Row([], [0], 3)
        self.assertEqual(greatest_difference(line, line), 0)
        self.assertEqual(greatest_difference(line, Row([], [5], 3)), -5)
        self.assertEqual(greatest_difference(Row([], [5], 3), Row([], [0], 4)), 5)
        self.assertIsNone(greatest_difference(Row([], [5], 4), line))
        self.assertIsNone(greatest_difference(empty(), line))
        self.assertIsNone(greatest_difference(line, empty()))
        self.assertIsNone(greatest_difference(empty(), empty()))
        self.assertIsNone(greatest_difference(line, Row([None], [3], 3)))
        self.assertEqual(greatest_difference(Row([None], [3], 3), line), 0)
        self.assertEqual(greatest_difference(later(line, 1, 0), Row([None], [1], 3)), -1)
        self.assertEqual(greatest_difference(Row([], [0, 7], 8), Row([], [0, 1, 5], 12)), 6)


if __name__ == "__main__":
    unittest.main()
