"""Point 26: spare and slack."""

import random
import unittest

from waitworks.errors import InvalidArrivals, NoPlace
from waitworks.flats import flat
from waitworks.houses import House, Module
from waitworks.lates import how_late, made_good
from waitworks.rows import Row, unit
from waitworks.runs import run
from waitworks.slacks import far_spare, near_spare, slack, tight

from models import ANY_VALUES, HOUSE, busy_house, error_of, feeders_by_hand, flat_by_hand, some_arrivals, some_house, walk


class SpareTest(unittest.TestCase):
    def test_by_late_goings(self):
        rng = random.Random(31)
        seen = {"near": 0, "far": 0, "no near": 0, "no far": 0, "nothing": 0}
        for round_ in range(300):
            house = some_house(rng, lasts=4) if round_ % 2 else busy_house(rng, lasts=rng.choice([3, 30]))
            places = flat_by_hand(house, "m")[0]
            if not places:
                continue
            arrivals = some_arrivals(rng, house["m"])
            place, other, n = rng.choice(places), rng.choice(places), rng.randint(0, 9)
            near = near_spare(house, "m", arrivals, place, n, other)
            far = far_spare(house=house, name="m", arrivals=arrivals, place=place, n=n, other=other)
            late = lambda d: how_late(house, "m", arrivals, [(place, n, d)], other)
            good = lambda d: made_good(house, "m", arrivals, [(place, n, d)], other)
            if near is None:
                seen["no near"] += 1
                self.assertEqual(late(99), 0)
                self.assertIsNone(far)
            else:
                seen["near" if near else "nothing"] += 1
                self.assertEqual(late(near), 0)
                self.assertGreater(late(near + 1), 0)
            if far is None:
                seen["no far"] += 1
                self.assertIsNotNone(good(99))
            else:
                seen["far"] += 1
                self.assertGreaterEqual(far, near)
                self.assertIsNotNone(good(far))
                self.assertIsNone(good(far + 1))
            if place not in feeders_by_hand(flat_by_hand(house, "m")[1], other):
                self.assertIsNone(near)
        self.assertGreater(min(seen.values()), 20)

    def test_told(self):
        slow = [Row([], [0], 5)]
        self.assertEqual(near_spare(HOUSE, "shop", slow, "cut", 1, "done"), 0)
        self.assertIsNone(far_spare(HOUSE, "shop", slow, "cut", 1, "done"))
        self.assertEqual(far_spare(HOUSE, "shop", [unit()], "cut", 1, "done"), 0)
        self.assertEqual(near_spare(HOUSE, "shop", [unit()], "order", 3, "done"), 12)
        self.assertEqual(far_spare(HOUSE, "shop", [unit()], "order", 3, "done"), 12)
        self.assertIsNone(near_spare(HOUSE, "shop", slow, "done", 1, "cut"))
        self.assertIsNone(far_spare(HOUSE, "shop", slow, "done", 1, "cut"))
        self.assertEqual(near_spare(HOUSE, "two", slow, "a.done", 0, "out"), 0)

    def test_far_out(self):
        arrivals = [Row([], [0] * 3, 12)]
        for n in (10 ** 15, 10 ** 15 + 1, 10 ** 15 + 2):
            self.assertEqual(near_spare(HOUSE, "shop", arrivals, "order", n, "cut"), 4 * (n % 3))
            self.assertEqual(far_spare(HOUSE, "shop", arrivals, "order", n, "cut"), 4 * (n % 3))

    def test_places_of_their_own(self):
        # A place's own later goings wait for it.
        house = House([Module("m", [], ["o"], ["s"], [("s", "s", 2, 6)])])
        self.assertEqual([near_spare(house, "m", [], "s", n, "s") for n in range(4)], [0, 0, 0, 0])
        self.assertEqual([far_spare(house, "m", [], "s", n, "s") for n in range(4)], [0, 0, 0, 0])
        self.assertEqual(near_spare(house, "m", [], "o", 5, "o"), 0)
        self.assertIsNone(near_spare(house, "m", [], "s", 5, "o"))

    def test_order_of_errors(self):
        for ask in (near_spare, far_spare):
            for bad in ANY_VALUES:
                if bad not in ("shop", "two"):
                    self.assertIs(error_of(self, NoPlace, ask, HOUSE, bad, None, bad, 0, bad).name, bad)
            self.assertEqual(error_of(self, InvalidArrivals, ask, HOUSE, "shop", [None], "x", 0, "y").at, 0)
            self.assertEqual(error_of(self, NoPlace, ask, HOUSE, "shop", [unit()], "x", 0, "y").name, "x")
            self.assertEqual(error_of(self, NoPlace, ask, HOUSE, "shop", [unit()], "cut", 0, "y").name, "y")
            for bad in ANY_VALUES:
                if bad != "order":
                    self.assertIs(error_of(self, NoPlace, ask, HOUSE, "shop", [unit()], "cut", 0, bad).name, bad)
                    self.assertIs(error_of(self, NoPlace, ask, HOUSE, "shop", [unit()], bad, 0, "nor").name, bad)


class SlackTest(unittest.TestCase):
    def test_by_longer_links(self):
        rng = random.Random(32)
        seen = {0: 0, 1: 0}
        for _ in range(60):
            house = busy_house(rng, lasts=rng.choice([3, 20]))
            module = house["m"]
            arrivals = some_arrivals(rng, module)
            rows = run(house, "m", arrivals)
            links = flat(house, "m")[1]
            for at, (first, then, marks, lasts) in enumerate(links):
                found = slack(house, "m", arrivals, at)
                seen[min(found, 1)] += 1
                for more in (found, found + 1):
                    others = [*links[:at], (first, then, marks, lasts + more), *links[at + 1:]]
                    longer = House([Module("m", module.inlets, module.outlets, module.stations, others)])
                    self.assertIs(run(longer, "m", arrivals) == rows, more == found)
            zero = tuple([at for at in range(len(links)) if slack(house, "m", arrivals, at) == 0])
            self.assertEqual(tight(house=house, name="m", arrivals=arrivals), zero)
        self.assertGreater(min(seen.values()), 100)

    def test_by_hand(self):
        rng = random.Random(33)
        for _ in range(60):
            house = some_house(rng, lasts=6)
            arrivals = some_arrivals(rng, house["m"])
            times = walk(house, "m", arrivals, 120)
            for at, (first, then, marks, lasts) in enumerate(flat_by_hand(house, "m")[1]):
                gaps = [times[then][n] - times[first][n - marks] - lasts for n in range(marks, 120)]
                self.assertEqual(slack(house=house, name="m", arrivals=arrivals, at=at), min(gaps))

    def test_told(self):
        slow = [Row([], [0], 5)]
        self.assertEqual([slack(HOUSE, "shop", slow, at) for at in range(4)], [0, 1, 0, 0])
        self.assertEqual(tight(HOUSE, "shop", [unit()]), (0, 1, 2, 3))
        self.assertEqual(tight(HOUSE, "shop", slow), (0, 2, 3))
        self.assertEqual(tight(House([Module("m", ["i"], ["o"], [], [])]), "m", [unit()]), ())

    def test_errors(self):
        for bad in ANY_VALUES:
            if bad not in ("shop", "two"):
                self.assertIs(error_of(self, NoPlace, slack, HOUSE, bad, None, 0).name, bad)
                self.assertIs(error_of(self, NoPlace, tight, HOUSE, bad, None).name, bad)
        for bad, at in ((None, 0), ([], 0), ([unit(), unit()], 0), ([None], 0), ([Row([-1], [0])], 0), ([Row([None], [0])], 0)):
            self.assertEqual(error_of(self, InvalidArrivals, slack, HOUSE, "shop", bad, 0).at, at)
            self.assertEqual(error_of(self, InvalidArrivals, tight, HOUSE, "shop", bad).at, at)


if __name__ == "__main__":
    unittest.main()
