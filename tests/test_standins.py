"""Point 41: what is alike under a contract, and the greatest face that is."""

import random
import unittest

from waitworks.contracts import keeps
from waitworks.errors import InvalidContract
from waitworks.faces import Face, face, out
from waitworks.houses import House, Module
from waitworks.rows import Row, empty, is_at_most, later, unit
from waitworks.standins import alike_under, parting_under, parting_under_holds, stand_in

from models import ANY_VALUES, HOUSE, busy_house, error_of, kept_arrivals, out_by_hand, some_contract, things

ONE = face(HOUSE, "shop")
SLOW = Row([], [0], 6)


def raised(row, n):
    """The row with the n-th thing greater by 1, and what is behind it no less."""
    time = 0 if row.time(n) is None else row.time(n) + 1
    end = max(n + 1, len(row.first))
    first = things(row, end)
    again = [max(time, row.time(end + at) if row.time(end + at) is not None else time) for at in range(len(row.again))]
    first = [other if m < n else max(time, other if other is not None else time) for m, other in enumerate(first)]
    return Row(first, again, max(row.more, again[-1] - again[0]))


def two_faces(rng):
    """Two faces with one inlet and the same outlets, also such that only many arrivals tell apart."""
    outlets = "op"[:rng.randint(1, 2)]
    house = busy_house(rng, inlets="i", outlets=outlets, lasts=4)
    if rng.random() < 0.2:
        return face(house, "m"), face(busy_house(rng, inlets="i", outlets=outlets, lasts=4), "m")
    module = house["m"]
    links = list(module.links)
    for _ in range(rng.randint(0, 1)):
        at = rng.randrange(len(links))
        first, then, marks, lasts = links[at]
        links[at] = (first, then, marks, lasts + rng.choice([1, 2]))
    station = rng.choice(module.stations)
    if rng.random() < 0.6:
        links.append((station, station, 1, rng.randint(0, 4)))
    other = House([Module("m", module.inlets, module.outlets, module.stations, links)])
    return face(house, "m"), face(other, "m")


class AlikeTest(unittest.TestCase):
    def test_by_hand(self):
        rng = random.Random(81)
        seen = {"equal": 0, "alike": 0, "clock": 0, "row": 0}
        for _ in range(250):
            one, other = two_faces(rng)
            contract = some_contract(rng, low=2)
            found = parting_under(one=one, other=other, contract=contract)
            self.assertIs(alike_under(one=one, other=other, contract=contract), found is None)
            if found is None:
                seen["equal" if one == other else "alike"] += 1
                for _ in range(3):
                    arrivals = [kept_arrivals(rng, contract)]
                    self.assertEqual(out(one, arrivals), out(other, arrivals))
                self.assertEqual(out(one, [later(contract, 0, 10 ** 4)]), out(other, [later(contract, 0, 10 ** 4)]))
                continue
            arrivals, outlet, n = found
            self.assertIsInstance(arrivals, tuple)
            self.assertIs(keeps(arrivals[0], contract), True)
            at = one.outlets.index(outlet)
            self.assertNotEqual(out_by_hand(one, arrivals, n + 1)[at][n], out_by_hand(other, arrivals, n + 1)[at][n])
            seen["clock" if arrivals == (contract,) else "row"] += 1
            self.assertIs(parting_under_holds(one=one, other=other, contract=contract, value=found), True)
            self.assertIs(parting_under_holds(one, one, contract, found), False)
        self.assertGreater(min(seen.values()), 2)

    def test_holds(self):
        other = face(House([Module("shop", ["order"], ["done"], [], [("order", "done", 0, 5)])]), "shop")
        fast = Row([], [0], 1)
        self.assertIs(alike_under(ONE, other, SLOW), True)
        self.assertIs(alike_under(ONE, other, fast), False)
        good = ((fast,), "done", 1)
        self.assertIs(parting_under_holds(ONE, other, fast, good), True)
        self.assertIs(parting_under_holds(ONE, other, SLOW, good), False)
        self.assertIs(parting_under_holds(ONE, other, fast, ((Row([], [9], 1),), "done", 10 ** 15)), True)
        for value in (((unit(),), "done", 1), ([fast], "done", 1), ((fast, fast), "done", 1), ((fast,), "done", 0), ((fast,), "order", 1),
                      ((fast,), "done", True), ((fast,), "done", -1), ((Row([-1], [0], 1),), "done", 1), ((empty(),), "done", 1), list(good)):
            self.assertIs(parting_under_holds(ONE, other, fast, value), False)
        for value in ANY_VALUES:
            self.assertIs(parting_under_holds(ONE, other, fast, value), False)
            for at in range(2):
                self.assertIs(parting_under_holds(ONE, other, fast, good[:at] + (value,) + good[at + 1:]), False)
            self.assertIs(parting_under_holds(ONE, other, fast, ((value,), "done", 1)), False)

    def test_errors(self):
        for bad in [value for value in ANY_VALUES if not isinstance(value, Row)] + [empty(), Row([], [1], 3), Row([0, 3], [4], 1)]:
            for ask in (lambda: parting_under(ONE, ONE, bad), lambda: alike_under(ONE, ONE, bad), lambda: stand_in(ONE, bad),
                        lambda: parting_under_holds(ONE, ONE, bad, None)):
                error_of(self, InvalidContract, ask)


class StandInTest(unittest.TestCase):
    def test_greatest(self):
        rng = random.Random(82)
        for _ in range(120):
            told = two_faces(rng)[0]
            contract = some_contract(rng, low=rng.choice([0, 2]))
            found = stand_in(face=told, contract=contract)
            self.assertIsInstance(found, Face)
            self.assertEqual((found.inlets, found.outlets), (told.inlets, told.outlets))
            self.assertIs(alike_under(told, found, contract), True)
            for at in range(len(told.outlets)):
                row, clock = found.rows[at][0], found.clock[at]
                self.assertTrue(is_at_most(told.rows[at][0], row))
                self.assertTrue(is_at_most(told.clock[at], clock))
                self.assertTrue(is_at_most(row, clock))
                n = rng.randint(0, 8)
                for worse in ((raised(row, n), clock), (row, raised(clock, n))):
                    rows = [*found.rows[:at], (worse[0],), *found.rows[at + 1:]]
                    clocks = [*found.clock[:at], worse[1], *found.clock[at + 1:]]
                    self.assertIs(alike_under(told, Face(told.inlets, told.outlets, rows, clocks), contract), False)

    def test_told(self):
        other = stand_in(ONE, SLOW)
        self.assertEqual((str(other.rows[0][0]), str(other.clock[0])), ("| 5 + 6", "| 5 + 6"))
        self.assertNotEqual(other, ONE)
        self.assertEqual(stand_in(ONE, unit()), ONE)
        alone = face(House([Module("m", ["i"], ["o"], ["s"], [("s", "o", 0, 9)])]), "m")
        self.assertEqual(stand_in(alone, SLOW), alone)


if __name__ == "__main__":
    unittest.main()
