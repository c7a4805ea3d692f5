"""Point 16 (and 13, 28): runs, goings, and what arrivals are."""

import random
import unittest

from waitworks.errors import InvalidArrivals, NoPlace, WaitError
from waitworks.houses import House, Module
from waitworks.lates import how_late, late_run, made_good, touched
from waitworks.reasons import chain, chain_holds
from waitworks.rows import Row, empty, unit
from waitworks.runpapers import run_holds, run_paper
from waitworks.runs import going, run

from models import ANY_VALUES, HOUSE, flat_by_hand, some_arrivals, some_house, things, walk

FAR = 10 ** 15


class RunTest(unittest.TestCase):
    def check_far_out(self, house, name, rows):
        """Far out all still waits just for its links, and for the going ahead."""
        places, links = flat_by_hand(house, name)
        for place in places:
            if place in house[name].inlets:
                continue
            for n in range(FAR - 7, FAR + 1):
                came = [rows[first].time(n - marks) + lasts for first, then, marks, lasts in links if then == place]
                self.assertEqual(rows[place].time(n), max([0, rows[place].time(n - 1), *came]))

    def test_by_hand(self):
        rng = random.Random(1)
        for _ in range(250):
            house = some_house(rng, modules=3, lasts=rng.choice([1, 4, 30]), marks=rng.choice([1, 3]))
            arrivals = some_arrivals(rng, house["m"], high=rng.choice([3, 90]), more=rng.choice([1, 9, 40]))
            found = run(house, "m", arrivals)
            self.assertIsInstance(found, tuple)
            self.assertEqual([place for place, _ in found], list(flat_by_hand(house, "m")[0]))
            times = walk(house, "m", arrivals, 120)
            for place, row in found:
                self.assertEqual(things(row, 120), times[place])
                for n in (0, 17, 119):
                    self.assertEqual(going(house, "m", tuple(arrivals), place, n), times[place][n])
                self.assertEqual(going(house, "m", arrivals, place, FAR), row.time(FAR))
            self.check_far_out(house, "m", dict(found))

    def test_by_names(self):
        found = run(house=HOUSE, name="shop", arrivals=(unit(),))
        self.assertEqual([(place, str(row)) for place, row in found], [("cut", "| 0 + 4"), ("done", "| 5 + 4"), ("fold", "| 3 + 4"), ("order", "| 0 + 0")])
        self.assertEqual(going(house=HOUSE, name="shop", arrivals=[unit()], place="fold", n=10), 43)

    def test_arrivals(self):
        def times(arrivals, name="shop", place="done"):
            return str(dict(run(HOUSE, name, [arrivals]))[place])

        self.assertEqual(times(Row([7], [7], 0)), "| 12 + 4")
        self.assertEqual(times(Row([], [0], 6)), "| 5 + 6")
        self.assertEqual(times(Row([], [0, 0, 0], 12)), "| 5 + 4")
        self.assertEqual(times(Row([], [0, 0, 0], 15)), "| 5 9 13 + 15")
        self.assertEqual(times(Row([], [0, 0], 9)), "| 5 9 + 9")
        self.assertEqual(times(Row([20], [20], 3)), "| 25 + 4")
        self.assertEqual(times(Row([0, 20], [20], 5)), "5 25 29 33 37 41 | 45 + 5")
        self.assertEqual(times(Row([], [0], 3), "two", "out"), "| 11 + 4")
        self.assertEqual(times(Row([], [0], 6), "two", "b.cut"), "| 6 + 6")

    def test_places_that_nothing_leads_to(self):
        part = Module("part", ["i", "j"], ["o", "p"], ["s", "t"], [("i", "s", 0, 2), ("t", "p", 2, 4)])
        whole = Module("whole", ["k"], ["q"], [], [("k", "c.j", 0, 0), ("c.o", "q", 0, 0)], [("c", "part")])
        house = House([part, whole])
        rows = dict(run(house, "whole", [Row([3], [4], 2)]))
        for place in ("c.i", "c.t", "c.o", "q"):
            self.assertEqual(rows[place], unit())
        self.assertEqual(rows["c.j"], rows["k"])
        self.assertEqual(str(rows["c.s"]), "| 2 + 0")
        self.assertEqual(str(rows["c.p"]), "0 0 | 4 + 0")
        rows = dict(run(house, "part", [Row([3], [4], 2), unit()]))
        self.assertEqual(str(rows["s"]), "5 | 6 + 2")
        self.assertEqual(run(House([Module("a", [], [], [], [])]), "a", []), ())

    def test_rings(self):
        def row_of(links, stations="stuv"):
            house = House([Module("m", [], [], list(stations), links)])
            return str(dict(run(house, "m", []))["s"])

        self.assertEqual(row_of([("s", "s", 1, 5)]), "| 0 + 5")
        self.assertEqual(row_of([("s", "s", 3, 5)]), "| 0 0 0 + 5")
        self.assertEqual(row_of([("s", "s", 2, 5), ("s", "s", 1, 2)]), "| 0 2 + 5")
        self.assertEqual(row_of([("s", "t", 1, 3), ("t", "s", 1, 4)]), "| 0 4 + 7")
        self.assertEqual(row_of([("s", "t", 3, 3), ("t", "s", 1, 4), ("u", "s", 2, 9)]), "0 | 4 9 9 9 + 7")
        self.assertEqual(row_of([("s", "s", 1, 0)]), "| 0 + 0")
        self.assertEqual(row_of([("t", "s", 0, 0), ("u", "s", 0, 20), ("t", "t", 1, 5), ("u", "u", 1, 3)]), "20 23 26 29 32 35 38 41 44 47 | 50 + 5")

    def test_lasts_that_are_long(self):
        links = [("i", "s", 0, 9999), ("s", "s", 1, 9998), ("i", "s", 0, 0), ("s", "o", 0, 9999), ("t", "o", 3, 0), ("t", "t", 2, 19997)]
        house = House([Module("m", ["i"], ["o"], ["s", "t"], links)])
        rows = dict(run(house, "m", [Row([], [999] * 3, 5)]))
        self.assertEqual(str(rows["s"]), "| 10998 + 9998")
        self.assertEqual(str(rows["t"]), "| 0 0 + 19997")
        for n in (0, 1, 2, 3, 20000, 10 ** 5, FAR):
            self.assertEqual(rows["o"].time(n), max(10998 + 9998 * n + 9999, 19997 * ((n - 3) // 2) if n > 2 else 0))

    def test_every_way_to_pass(self):
        first = run(HOUSE, "two", [Row([1, 2], [8, 8], 9)])
        self.assertEqual(run(HOUSE, "two", (Row((1, 2), (8, 8), 9),)), first)
        run(HOUSE, "shop", [unit()])
        self.assertEqual(run(HOUSE, "two", [Row([1, 2], [8, 8], 9)]), first)


class RefusedTest(unittest.TestCase):
    def asks(self, name, arrivals, place):
        """Calls of all functions that have a run behind them, with as much as they take."""
        return (
            lambda: run(HOUSE, name, arrivals), lambda: run_paper(HOUSE, name, arrivals),
            lambda: run_holds(HOUSE, name, arrivals, None), lambda: late_run(HOUSE, name, arrivals, [(place, 0, 0)]),
            lambda: touched(HOUSE, name, arrivals, [(place, 0, 0)]), lambda: made_good(HOUSE, name, arrivals, [], place),
            lambda: how_late(HOUSE, name, arrivals, [], place), lambda: made_good(HOUSE, name, arrivals, [(place, 0, 0)], 0),
            lambda: going(HOUSE, name, arrivals, place, 0), lambda: chain(HOUSE, name, arrivals, place, 0),
            lambda: chain_holds(HOUSE, name, arrivals, place, 0, None), lambda: how_late(HOUSE, name, arrivals, [(place, 0, 0)], 0),
        )

    def test_name_ahead_of_all_else(self):
        for value in ANY_VALUES:
            if value != "shop":
                for ask in self.asks(value, 5, 5):
                    with self.assertRaises(NoPlace) as caught:
                        ask()
                    self.assertIs(caught.exception.name, value)

    def test_arrivals_ahead_of_places(self):
        wrong = [(value, 0) for value in ANY_VALUES if not isinstance(value, (list, tuple)) or len(value) != 1]
        wrong += [([value], 0) for value in ANY_VALUES if not isinstance(value, Row)]
        wrong += [([unit(), unit()], 0), ([], 0), ([empty()], 0), ([Row([None], [0], 0)], 0), ([Row([-1], [0], 0)], 0), ([Row([], [-1], 5)], 0)]
        for arrivals, at in wrong:
            for ask in self.asks("shop", arrivals, 5):
                with self.assertRaises(InvalidArrivals) as caught:
                    ask()
                self.assertEqual(caught.exception.at, at)
                self.assertIsInstance(caught.exception, WaitError)

    def test_the_first_wrong_arrival(self):
        house = House([Module("m", ["i", "j", "k"], [], [], [])])
        for arrivals, at in (
            ([unit(), 5, empty()], 1), ([unit(), unit(), empty()], 2), ((empty(), 5, 5), 0), ([unit(), Row([], [-1], 1), 5], 1),
            ([unit(), unit()], 0), ([unit()] * 4, 0), ((unit(), unit(), None), 2),
        ):
            with self.assertRaises(InvalidArrivals) as caught:
                run(house, "m", arrivals)
            self.assertEqual(caught.exception.at, at)
        with self.assertRaises(InvalidArrivals) as caught:
            run(House([Module("m", [], [], [], [])]), "m", [unit()])
        self.assertEqual(caught.exception.at, 0)

    def test_places(self):
        for value in (*ANY_VALUES, "a.cut", "in", "shop.cut"):
            if value != "order":
                for ask in self.asks("shop", [unit()], value)[3:]:
                    with self.assertRaises(NoPlace) as caught:
                        ask()
                    self.assertIs(caught.exception.name, value)
        self.assertEqual(going(HOUSE, "two", [unit()], "a.cut", 1), 4)


if __name__ == "__main__":
    unittest.main()
