"""Points 5 and 6: rows made, refused, asked, told as texts and read."""

import random
import unittest

from waitworks.errors import InvalidRow, InvalidText, WaitError
from waitworks.rows import Row, empty, unit

from models import ANY_VALUES, some_row, things


class MadeTest(unittest.TestCase):
    def test_times(self):
        saw = Row([0, 2], [5, 6], 4)
        self.assertEqual(things(saw, 9), [0, 2, 5, 6, 9, 10, 13, 14, 17])
        self.assertEqual(saw.time(10 ** 15), 5 + 4 * ((10 ** 15 - 2) // 2))
        self.assertEqual(saw.time(10 ** 15 + 1), 6 + 4 * ((10 ** 15 - 2) // 2))
        self.assertEqual(things(Row([None, -3], [-3], 0), 4), [None, -3, -3, -3])
        self.assertEqual(things(Row((None,), (None, None)), 4), [None] * 4)
        self.assertEqual(things(Row([], [5, 6, 20], 15), 5), [5, 6, 20, 20, 21])

    def test_more_is_0_if_not_told(self):
        self.assertEqual(Row([1], [2]), Row([1], [2], 0))
        self.assertEqual(Row(first=[1], again=[2, 4], more=3), Row([1], [2, 4], 3))

    def test_times_of_rows_by_chance(self):
        rng = random.Random(1)
        for _ in range(300):
            many, turn = rng.randint(0, 6), rng.randint(1, 6)
            times = sorted([rng.randint(-9, 9) for _ in range(many + turn)])
            times[:rng.randint(0, many)] = []
            times = [None] * (many + turn - len(times)) + times
            grow = times[-1] - times[many] + rng.randint(0, 4)
            row = Row(times[:many], times[many:], grow)
            for n in range(40):
                turns = (n - many) // turn
                wanted = times[n] if n < many else times[many + (n - many) % turn] + turns * grow
                self.assertEqual(row.time(n), wanted)

    def test_least_form(self):
        for made, first, again, more in (
            (Row([0, 2, 5], [6, 9], 4), (0,), (2, 5), 4),
            (Row([0, 2], [5, 6], 4), (0,), (2, 5), 4),
            (Row([], [0, 3, 6, 9], 12), (), (0,), 3),
            (Row([1, 4], [7, 10], 6), (), (1,), 3),
            (Row([0, 0], [0, 0], 0), (), (0,), 0),
            (Row([None, 0], [0], 0), (None,), (0,), 0),
            (Row([None, None], [None, None], 0), (), (None,), 0),
            (Row([0, 1], [3, 5, 7, 9], 8), (0,), (1,), 2),
            (Row([0], [5, 6, 9, 10], 8), (0,), (5, 6), 4),
            (Row([], [1, 2, 3, 5], 4), (), (1, 2, 3, 5), 4),
            (Row([], [0, 1, 1], 1), (), (0, 1, 1), 1),
            (Row([0, 1], [2, 2, 4, 4, 6, 6], 6), (0, 1), (2, 2), 2),
            (Row([0, 3], [4, 7], 4), (), (0, 3), 4),
            (Row([3], [4, 7], 4), (), (3, 4), 4),
            (Row([None, 3], [4, 7], 4), (None,), (3, 4), 4),
        ):
            self.assertEqual((made.first, made.again, made.more), (first, again, more))

    def test_least_form_by_chance(self):
        rng = random.Random(2)
        for _ in range(300):
            row = some_row(rng, nothing=0.3)
            many, times = rng.randint(1, 3), rng.randint(0, 7)
            begin, turn = len(row.first) + times, len(row.again) * many
            told = things(row, begin + turn)
            same = Row(told[:begin], told[begin:], row.more * many)
            self.assertEqual((same.first, same.again, same.more), (row.first, row.again, row.more))
            # No shorter form has the same times.
            times = things(row, 60)
            for begin in range(len(row.first) + 1):
                for turn in range(1, len(row.again) + 1):
                    if (begin, turn) != (len(row.first), len(row.again)):
                        grow = times[begin + turn] - times[begin] if times[begin] is not None else 0
                        again = [n for n in range(begin, 60 - turn) if times[n] is None or times[n] + grow != times[n + turn]]
                        self.assertTrue(again)

    def test_attributes_are_tuples_of_their_own(self):
        first, again = [0, 1], [3, 4]
        row = Row(first, again, 9)
        first.append(7)
        again[0] = 4
        self.assertEqual((row.first, row.again, row.more), ((0, 1), (3, 4), 9))
        self.assertIsInstance(row.first, tuple)
        self.assertIsInstance(row.again, tuple)

    def test_equal(self):
        self.assertTrue(Row([0], [4], 4) == Row((), (0,), 4))
        self.assertFalse(Row([0], [4], 4) != Row((), (0,), 4))
        for other in (Row([1], [4], 4), Row([], [0], 3), Row([], [1], 4), Row([], [0, 3], 8), empty()):
            self.assertFalse(Row([], [0], 4) == other)
            self.assertTrue(Row([], [0], 4) != other)
        for other in ((), "| 0 + 4", ((), (0,), 4), None, 0):
            self.assertFalse(Row([], [0], 4) == other)

    def test_is_not_iterable(self):
        with self.assertRaises(TypeError):
            iter(Row([], [0], 4))

    def test_unit_and_empty(self):
        self.assertEqual(things(unit(), 3), [0, 0, 0])
        self.assertEqual(things(empty(), 3), [None] * 3)
        self.assertEqual((empty().first, empty().again, empty().more), ((), (None,), 0))
        self.assertEqual((unit().first, unit().again, unit().more), ((), (0,), 0))


class RefusedTest(unittest.TestCase):
    def check(self, word, *arguments):
        with self.assertRaises(InvalidRow) as caught:
            Row(*arguments)
        self.assertEqual(caught.exception.word, word, arguments)
        self.assertIsInstance(caught.exception, WaitError)

    def test_first(self):
        for first in (None, 0, "", "12", {}, Row([], [0]), [True], [0, "1"], [1, 0], [0, None], [None, 3, None], [[0]], [1.0]):
            self.check("first", first, [9], 9)
            self.check("first", first, [], -1)

    def test_again(self):
        for again in (None, 5, "", "9", {}, [], (), [False], [9, 8], [9, None], [None, 9], ["9"], [(9,)], Row([], [0])):
            self.check("again", [], again, 99)
            self.check("again", (), again, -1)

    def test_again_below_the_end_of_first(self):
        self.check("again", [3], [2], 5)
        self.check("again", [3], [None], 0)
        self.check("again", [None, 3], [None], 7)
        self.assertEqual(Row([3], [3], 5).time(1), 3)
        self.assertEqual(Row([None], [3], 5).time(1), 3)

    def test_more(self):
        for more in (-1, True, None, "1", 1.0, [1]):
            self.check("more", [], [0], more)
        self.check("more", [], [0, 5], 4)
        self.check("more", [], [0, 5])
        self.check("more", [], [None], 1)
        self.check("more", [None], [None, None], 3)
        self.check("more", [None], [None], False)
        self.assertEqual(Row([], [0, 5], 5).time(2), 5)

    def test_any_values(self):
        for value in ANY_VALUES:
            if not isinstance(value, (list, tuple)) or value not in ([], (), [None], (None,), [0], (0,), (1, 2, 3)):
                self.check("first", value, value, value)
                self.check("again", [], value, value)
            if isinstance(value, bool) or not isinstance(value, int) or value < 0:
                self.check("more", [None, 1], [4], value)


class AskedTest(unittest.TestCase):
    def test_rate(self):
        self.assertEqual(Row([0, 2], [5, 6], 4).rate, (2, 1))
        self.assertEqual(Row([], [5, 6, 7], 4).rate, (4, 3))
        self.assertEqual(Row([], [5, 6, 7, 9], 6).rate, (3, 2))
        self.assertEqual(Row([1], [5]).rate, (0, 1))
        self.assertEqual(empty().rate, (0, 1))

    def test_count(self):
        saw = Row([0, 2], [5, 6], 4)
        self.assertEqual([saw.count(time) for time in (-10 ** 15, -1, 0, 1, 2, 4, 5, 6, 8, 9, 10)], [0, 0, 1, 1, 2, 2, 3, 4, 4, 5, 6])
        self.assertEqual(saw.count(10 ** 15), 500000000000000)
        self.assertEqual(saw.count(10 ** 15 + 1), 500000000000001)
        late = Row([None, None, 3], [3, 7], 4)
        self.assertEqual([late.count(time) for time in (-5, 2, 3, 6, 7, 10, 11)], [2, 2, 4, 4, 6, 6, 8])
        self.assertIsNone(empty().count(-10 ** 15))
        self.assertIsNone(Row([0], [5]).count(5))
        self.assertEqual(Row([0], [5]).count(4), 1)

    def test_count_by_chance(self):
        rng = random.Random(3)
        for _ in range(200):
            row = some_row(rng, low=-9, high=9, nothing=0.2)
            for time in range(-12, 40, 3):
                many = row.count(time)
                if many is None:
                    self.assertLessEqual(row.time(10 ** 15), time)
                else:
                    self.assertGreater(row.time(many), time)
                    self.assertTrue(many == 0 or row.time(many - 1) is None or row.time(many - 1) <= time)


class TextTest(unittest.TestCase):
    def test_told(self):
        self.assertEqual(str(Row([0], [2, 5], 4)), "0 | 2 5 + 4")
        self.assertEqual(str(Row([None, -3], [5], 12)), "- -3 | 5 + 12")
        self.assertEqual(str(Row([], [5], 0)), "| 5 + 0")
        self.assertEqual(str(empty()), "| - + 0")
        self.assertEqual(str(Row([0, 4], [8], 4)), "| 0 + 4")

    def test_read(self):
        self.assertEqual(Row.read("0 | 2 5 + 4"), Row([0], [2, 5], 4))
        self.assertEqual(Row.read("- -7 | -7 + 4"), Row([None, -7], [-7], 4))
        self.assertEqual(Row.read("- - | - - + 0"), empty())
        self.assertEqual(Row.read("0 4 | 8 12 + 8"), Row([], [0], 4))
        self.assertEqual(Row.read(text="-999999999999 | 999999999999 + 999999999999").time(1), 10 ** 12 - 1)
        self.assertEqual(str(Row.read("0 4 | 8 12 + 8")), "| 0 + 4")

    def test_read_is_told_back(self):
        rng = random.Random(4)
        for _ in range(100):
            row = some_row(rng, low=-99, high=99, nothing=0.3)
            self.assertEqual(Row.read(str(row)), row)

    def test_no_text(self):
        wrong = (
            "", " ", "|", "| + 4", "5 + 4", "| 5 4", "| 5 +", "| 5", "| 5 + 4 ", " | 5 + 4", "| 5  + 4", "|  5 + 4",
            "| 5 + -4", "| 5 + -0", "| 5 + 04", "| 05 + 4", "| -05 + 4", "| -0 + 4", "| 5 + +4", "| +5 + 4", "| 5 + -",
            "| 5 + 4 5", "| 5 | 6 + 4", "0 |5 + 4", "| 5+ 4", "| 5 + 4\n", "\n| 5 + 4", "|\t5 + 4", "| 5.0 + 4", "| a + 4",
            "| 1000000000000 + 4", "| -1000000000000 + 4", "| 5 + 1000000000000", "| 5 - 4", "- -- | 5 + 4", "0 | + 4",
            "| \u0665 + 4", "| 5 + \u00b2", "| 5_0 + 4", "0 1 + 4", "| None + 0", "+ 4", "| | + 4", "0 + 4 |", "| + + 4",
        )
        for text in (*wrong, *[value for value in ANY_VALUES]):
            with self.assertRaises(InvalidText) as caught:
                Row.read(text)
            self.assertEqual(caught.exception.at, 0, text)

    def test_text_of_no_row(self):
        for text, word in (
            ("1 0 | 5 + 4", "first"), ("0 - | 5 + 4", "first"), ("6 | 5 + 4", "again"), ("| 5 4 + 4", "again"),
            ("| - 5 + 4", "again"), ("0 | - + 0", "again"), ("| 5 9 + 3", "more"), ("| - + 1", "more"),
            ("1 0 | 5 4 + 4", "first"),
        ):
            with self.assertRaises(InvalidRow) as caught:
                Row.read(text)
            self.assertEqual(caught.exception.word, word, text)


if __name__ == "__main__":
    unittest.main()
