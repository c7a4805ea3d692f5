"""Points 44 and 46: rooms, and rows that are sure."""

import random
import unittest

from waitworks.errors import NoPlace
from waitworks.faces import face
from waitworks.flats import flat
from waitworks.houses import House, Module
from waitworks.rooms import least_inner_room, least_room, room, roomed, sure_row
from waitworks.rows import Row, empty, unit
from waitworks.runs import run
from waitworks.ways import closed, keeps_face

from models import ANY_VALUES, HOUSE, SHOP, STREET, busy_house, error_of, some_face, some_row, things, walk

ONE = face(HOUSE, "shop")


class RoomTest(unittest.TestCase):
    def test_room(self):
        self.assertEqual(room(1), Row([None], [0]))
        self.assertEqual(room(marks=3, lasts=7), Row([None, None, None], [7]))
        self.assertEqual(len(room(10 ** 4, 10 ** 4).first), 10 ** 4)

    def test_least_room(self):
        rng = random.Random(101)
        seen = {"none": 0, "one": 0, "some": 0, "any": 0}
        for _ in range(150):
            told = some_face(rng, inlets="ij"[:rng.randint(1, 2)], outlets="op"[:rng.randint(1, 2)], loose=rng.choice([0.0, 0.3]))
            outlet, inlet, lasts = rng.choice(told.outlets), rng.choice(told.inlets), rng.choice([0, 0, rng.randint(0, 9)])
            found = least_room(face=told, outlet=outlet, inlet=inlet, lasts=lasts)
            reached = any([rows[told.inlets.index(inlet)] != empty() for rows in told.rows])
            seen["any" if not reached else "none" if found is None else "one" if found == 1 else "some"] += 1
            if found is None:
                self.assertNotEqual(closed(told, outlet, inlet, room(200, lasts)), told)
            else:
                self.assertEqual(closed(told, outlet, inlet, room(found, lasts)), told)
                self.assertFalse(found > 1 and keeps_face(told, outlet, inlet, room(found - 1, lasts)))
                self.assertFalse(found > 1 and closed(told, outlet, inlet, room(found - 1, lasts)) == told)
        self.assertGreater(min(seen.values()), 8)

    def test_least_room_told(self):
        self.assertEqual((least_room(ONE, "done", "order"), least_room(ONE, "done", "order", 4)), (2, 3))
        self.assertEqual(least_room(ONE, "done", "order", 10 ** 4), 2502)
        still = face(House([Module("m", ["i"], ["o"], [], [("i", "o", 0, 3)])]), "m")
        self.assertIsNone(least_room(still, "o", "i"))
        same = face(House([Module("m", ["i"], ["o"], [], [("i", "o", 0, 0)])]), "m")
        self.assertEqual((least_room(same, "o", "i"), least_room(same, "o", "i", 1)), (1, None))
        unreached = face(House([Module("m", ["i"], ["o"], [], [])]), "m")
        self.assertEqual(least_room(unreached, "o", "i", 99), 1)
        for bad in ANY_VALUES:
            self.assertIs(error_of(self, NoPlace, least_room, ONE, bad, bad).name, bad)
            if bad != "order":
                self.assertIs(error_of(self, NoPlace, least_room, ONE, "done", bad, 3).name, bad)

    def test_roomed(self):
        found = roomed(house=HOUSE, name="two", label="a", outlet="done", inlet="order", marks=1)
        self.assertEqual(found["two"].links, (*STREET.links, ("a.done", "a.order", 1, 0)))
        self.assertEqual((found.names, found["shop"]), (("shop", "two"), SHOP))
        self.assertEqual(roomed(HOUSE, "two", "b", "done", "order", 3, 10 ** 4)["two"].links[-1], ("b.done", "b.order", 3, 10 ** 4))
        self.assertEqual(len(HOUSE["two"].links), 3)
        rng = random.Random(102)
        for _ in range(40):
            house = busy_house(rng, lasts=6)
            outer = Module("out", ["i", "j"], ["o", "p"], [], [("i", "x.i", 0, 0), ("j", "x.j", 0, 0), ("x.o", "o", 0, 0), ("x.p", "p", 0, 0)], [("x", "m")])
            both, marks, lasts = House([house["m"], outer]), rng.randint(1, 3), rng.randint(0, 5)
            wanted = closed(face(house, "m"), "o", "j", room(marks, lasts))
            self.assertEqual(face(roomed(both, "out", "x", "o", "j", marks, lasts), "out"), wanted)
            least = least_room(face(both, "out"), "o", "j", lasts)
            if least is not None:
                self.assertEqual(face(roomed(both, "out", "x", "o", "j", least, lasts), "out"), face(both, "out"))

    def test_roomed_errors(self):
        for bad in ANY_VALUES:
            if bad not in ("shop", "two"):
                self.assertIs(error_of(self, NoPlace, roomed, HOUSE, bad, bad, bad, bad, 1).name, bad)
            if bad not in ("a", "b"):
                self.assertIs(error_of(self, NoPlace, roomed, HOUSE, "two", bad, None, None, 1).name, bad)
            self.assertIs(error_of(self, NoPlace, roomed, HOUSE, "two", "a", bad, None, 1).name, bad)
            if bad != "order":
                self.assertIs(error_of(self, NoPlace, roomed, HOUSE, "two", "a", "done", bad, 1).name, bad)
        self.assertEqual(error_of(self, NoPlace, roomed, HOUSE, "shop", "a", "done", "order", 1).name, "a")


class SureTest(unittest.TestCase):
    def test_by_hand(self):
        rng = random.Random(103)
        seen = {"nothing": 0, "some": 0}
        for _ in range(100):
            house = busy_house(rng, inlets="ij"[:rng.randint(0, 2)], outlets="o", stations=2, lasts=5)
            places = flat(house, "m")[0]
            first, then = rng.choice(places), rng.choice(places)
            found = sure_row(house=house, name="m", first=first, then=then)
            # Late arrivals of one inlet, and none, show all that is not sure.
            many, least = 60, [None] * 8
            early = [unit()] * len(house["m"].inlets)
            tries = [early] + [early[:at] + [Row([], [500])] + early[at + 1:] for at in range(len(early))]
            for arrivals in tries + [[some_row(rng) for _ in early] for _ in range(3)]:
                times = walk(house, "m", arrivals, many)
                for k in range(8):
                    gap = min([times[then][n + k] - times[first][n] for n in range(many - k)])
                    least[k] = gap if least[k] is None else min(least[k], gap)
            for time, most in zip(things(found, 8), least):
                seen["nothing" if time is None else "some"] += 1
                if time is None:
                    self.assertLess(most, -20)
                else:
                    self.assertEqual(time, most)
        self.assertGreater(min(seen.values()), 100)

    def test_least_inner_room(self):
        rng = random.Random(104)
        seen = {"none": 0, "one": 0, "some": 0}
        for _ in range(120):
            house = busy_house(rng, stations=2, lasts=4)
            module = house["m"]
            first, then = rng.choice(module.stations + module.inlets), rng.choice(module.stations + module.outlets)
            lasts = rng.choice([0, 1, 3])
            found = least_inner_room(house=house, name="m", first=first, then=then, lasts=lasts)
            def changes(marks):
                other = House([Module("m", module.inlets, module.outlets, module.stations, [*module.links, (first, then, marks, lasts)])])
                early = [unit(), unit()]
                tries = [early, [Row([], [500]), unit()], [unit(), Row([], [500])]] + [[some_row(rng), some_row(rng)] for _ in range(3)]
                return any([run(other, "m", arrivals) != run(house, "m", arrivals) for arrivals in tries])
            if found is None:
                seen["none"] += 1
                self.assertTrue(changes(60))
            else:
                seen["one" if found == 1 else "some"] += 1
                self.assertFalse(changes(found))
                self.assertTrue(found == 1 or changes(found - 1))
        self.assertGreater(min(seen.values()), 10)

    def test_told(self):
        self.assertEqual(least_inner_room(HOUSE, "shop", "fold", "cut", 1), 1)
        self.assertEqual(str(sure_row(HOUSE, "shop", "cut", "done")), "| 5 + 4")
        self.assertEqual(str(sure_row(HOUSE, "shop", "fold", "cut")), "| -3 + 4")
        self.assertEqual(str(sure_row(HOUSE, "shop", "done", "done")), "| 0 + 4")
        self.assertEqual(str(sure_row(HOUSE, "shop", "order", "order")), "| 0 + 0")
        self.assertEqual(sure_row(HOUSE, "shop", "cut", "order"), empty())
        self.assertEqual((least_inner_room(HOUSE, "shop", "cut", "order"), least_inner_room(HOUSE, "shop", "order", "order")), (None, 1))
        self.assertEqual(least_inner_room(HOUSE, "two", "a.cut", "b.fold", 99), 23)
        self.assertEqual(str(sure_row(HOUSE, "two", "a.cut", "b.fold")), "| 9 + 4")

    def test_errors(self):
        for ask in (sure_row, least_inner_room):
            for bad in ANY_VALUES:
                if bad not in ("shop", "two"):
                    self.assertIs(error_of(self, NoPlace, ask, HOUSE, bad, bad, bad).name, bad)
                if bad != "order":
                    self.assertIs(error_of(self, NoPlace, ask, HOUSE, "shop", bad, "nor").name, bad)
                    self.assertIs(error_of(self, NoPlace, ask, HOUSE, "shop", "cut", bad).name, bad)


if __name__ == "__main__":
    unittest.main()
