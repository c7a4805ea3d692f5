"""Point 24: late goings."""

import random
import unittest

from waitworks.errors import NoPlace
from waitworks.houses import House, Module
from waitworks.lates import how_late, late_run, made_good, touched
from waitworks.rows import Row, unit
from waitworks.runs import run

from models import HOUSE, flat_by_hand, some_arrivals, some_house, things, walk


class LateTest(unittest.TestCase):
    def test_by_hand(self):
        rng = random.Random(6)
        seen = {"made good": 0, "never": 0, "nothing": 0}
        for _ in range(250):
            house = some_house(rng, lasts=rng.choice([2, 6]))
            places = flat_by_hand(house, "m")[0]
            if not places:
                continue
            arrivals = some_arrivals(rng, house["m"])
            lates = [(rng.choice(places), rng.randint(0, 9), rng.randint(0, 9)) for _ in range(rng.randint(0, 3))]
            times = walk(house, "m", arrivals, 120)
            held = walk(house, "m", arrivals, 120, [(place, n, times[place][n] + d) for place, n, d in lates])
            found = late_run(house, "m", arrivals, lates)
            self.assertEqual([place for place, _ in found], list(places))
            for place, row in found:
                self.assertEqual(things(row, 120), held[place])
                gaps = [late - time for late, time in zip(held[place], times[place])]
                self.assertEqual(how_late(house, "m", arrivals, lates, place), max(gaps))
                good = made_good(house, "m", arrivals, lates, place)
                if good is None:
                    seen["never"] += 1
                    self.assertGreater(max(gaps[-20:]), 0)
                else:
                    seen["made good" if good else "nothing"] += 1
                    self.assertTrue(good == 0 or gaps[good - 1] > 0)
                    self.assertEqual(max(gaps[good:]), 0)
            self.assertEqual(touched(house, "m", arrivals, tuple(lates)), tuple([place for place in places if held[place] != times[place]]))
        self.assertGreater(min(seen.values()), 40)

    def test_told(self):
        slow, late = [Row([], [0], 5)], [("cut", 1, 2)]
        self.assertEqual(made_good(HOUSE, "shop", slow, late, "done"), 3)
        self.assertEqual(how_late(HOUSE, "shop", slow, late, "cut"), 2)
        self.assertEqual(touched(HOUSE, "shop", slow, late), ("cut", "done", "fold"))
        self.assertIsNone(made_good(HOUSE, "shop", [unit()], late, "done"))
        self.assertEqual(str(dict(late_run(HOUSE, "shop", slow, late))["cut"]), "0 7 11 | 15 + 5")
        self.assertEqual(made_good(house=HOUSE, name="shop", arrivals=slow, lates=late, place="order"), 0)
        self.assertEqual(how_late(house=HOUSE, name="shop", arrivals=slow, lates=late, place="order"), 0)
        self.assertEqual(touched(house=HOUSE, name="shop", arrivals=slow, lates=[]), ())
        self.assertEqual(late_run(house=HOUSE, name="shop", arrivals=slow, lates=[]), run(HOUSE, "shop", slow))
        self.assertEqual(late_run(HOUSE, "shop", slow, [("cut", 3, 0)]), run(HOUSE, "shop", slow))

    def test_several_late_goings_of_a_place(self):
        slow = [Row([], [0], 5)]
        rows = dict(late_run(HOUSE, "shop", slow, [("cut", 1, 2), ("cut", 1, 4), ("cut", 4, 9)]))
        self.assertEqual(str(rows["cut"]), "0 9 13 17 29 33 37 41 45 49 53 57 61 | 65 + 5")
        # Each is late against the run, not against what the others make of it.
        rows = dict(late_run(HOUSE, "shop", slow, [("cut", 1, 20), ("cut", 2, 3)]))
        self.assertEqual(things(rows["cut"], 4), [0, 25, 29, 33])

    def test_late_inlets(self):
        slow, late = [Row([], [0], 5)], [("order", 2, 7)]
        rows = dict(late_run(HOUSE, "shop", slow, late))
        self.assertEqual(str(rows["order"]), "0 5 17 17 | 20 + 5")
        self.assertEqual(things(rows["cut"], 9), [0, 5, 17, 21, 25, 29, 33, 37, 41])
        self.assertEqual(touched(HOUSE, "shop", slow, late), ("cut", "done", "fold", "order"))
        self.assertEqual(made_good(HOUSE, "shop", slow, late, "order"), 4)
        self.assertEqual(made_good(HOUSE, "shop", slow, late, "cut"), 9)
        self.assertEqual(how_late(HOUSE, "shop", slow, late, "done"), 7)

    def test_late_places_of_called_modules(self):
        late = [("a.done", 0, 3)]
        self.assertEqual(touched(HOUSE, "two", [unit()], late), ("a.done", "b.cut", "b.done", "b.fold", "b.order", "out"))
        self.assertEqual(made_good(HOUSE, "two", [unit()], late, "b.order"), 1)
        self.assertIsNone(made_good(HOUSE, "two", [unit()], late, "b.cut"))
        self.assertEqual(made_good(HOUSE, "two", [Row([], [0], 9)], late, "b.cut"), 1)
        self.assertEqual(touched(HOUSE, "two", [Row([], [0], 9)], [("b.order", 2, 1)]), ("b.cut", "b.done", "b.fold", "b.order", "out"))

    def test_never_made_good(self):
        house = House([Module("m", [], ["o"], ["s"], [("s", "s", 3, 2), ("s", "o", 0, 0)])])
        self.assertIsNone(made_good(house, "m", [], [("s", 4, 1)], "o"))
        self.assertEqual(how_late(house, "m", [], [("s", 4, 1)], "o"), 1)
        still = House([Module("m", [], [], ["s"], [])])
        self.assertIsNone(made_good(still, "m", [], [("s", 5, 1)], "s"))
        self.assertEqual(str(dict(late_run(still, "m", [], [("s", 5, 1)]))["s"]), "0 0 0 0 0 | 1 + 0")

    def test_made_good_far_out(self):
        arrivals = [Row([], [0] * 12, 49)]
        late = [("cut", 60, 99)]
        good = made_good(HOUSE, "shop", arrivals, late, "cut")
        rows, times = dict(late_run(HOUSE, "shop", arrivals, late)), dict(run(HOUSE, "shop", arrivals))
        self.assertGreater(good, 1000)
        self.assertNotEqual(rows["cut"].time(good - 1), times["cut"].time(good - 1))
        self.assertEqual([rows["cut"].time(good + n) for n in range(30)], [times["cut"].time(good + n) for n in range(30)])

    def test_order_of_errors(self):
        for lates, place, name in (([("cut", 0, 1), ("x", 0, 1), ("y", 0, 1)], "z", "x"), ([("cut", 0, 1)], "z", "z"), ([], None, None)):
            for ask in (made_good, how_late):
                with self.assertRaises(NoPlace) as caught:
                    ask(HOUSE, "shop", [unit()], lates, place)
                self.assertEqual(caught.exception.name, name)
        for ask in (late_run, touched):
            with self.assertRaises(NoPlace) as caught:
                ask(HOUSE, "shop", [unit()], [("cut", 0, 1), ("x", 0, 1), ("y", 0, 1)])
            self.assertEqual(caught.exception.name, "x")


if __name__ == "__main__":
    unittest.main()
