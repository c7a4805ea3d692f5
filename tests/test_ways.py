"""Points 42 and 43: ways back."""

import random
import unittest

from waitworks.errors import InvalidRow, NoPlace
from waitworks.faces import Face, face
from waitworks.houses import House, Module
from waitworks.rooms import room
from waitworks.rows import Row, empty, is_at_most, later, unit
from waitworks.ways import closed, keeps_face, way_back

from models import ANY_VALUES, HOUSE, busy_house, error_of, out_by_hand, some_face, some_row, things

ONE = face(HOUSE, "shop")


def with_way_back(told, outlet, inlet, row, arrivals, many):
    """The first goings of all outlets if the starts at an inlet wait for an outlet, too, one after another."""
    back, at = told.outlets.index(outlet), told.inlets.index(inlet)
    starts = [things(came, many) for came in arrivals]
    found = [[] for _ in told.outlets]
    for n in range(many):
        # With no time of the row at 0 the n-th start waits for goings ahead alone.
        waits = [found[back][n - k] + row.time(k) for k in range(1, n + 1) if row.time(k) is not None]
        starts[at][n] = max([starts[at][n], *waits, *starts[at][max(n - 1, 0):n]])
        for number, (rows, clock) in enumerate(zip(told.rows, told.clock)):
            sums = [row.time(k) + some[n - k] for row, some in zip(rows, starts) for k in range(n + 1) if row.time(k) is not None]
            found[number].append(max([clock.time(n), *sums]))
    return found


def some_way(rng):
    """A row by chance, without a time at 0, also with times below 0."""
    return later(some_row(rng, low=rng.choice([-20, -5, 0]), high=6, nothing=0.3), rng.randint(1, 3), 0)


class ClosedTest(unittest.TestCase):
    def test_by_hand(self):
        rng = random.Random(91)
        for _ in range(150):
            told = some_face(rng, inlets="ij"[:rng.randint(1, 2)], outlets="op"[:rng.randint(1, 2)], loose=0.1)
            outlet, inlet, row = rng.choice(told.outlets), rng.choice(told.inlets), some_way(rng)
            found = closed(face=told, outlet=outlet, inlet=inlet, row=row)
            self.assertIsInstance(found, Face)
            self.assertEqual((found.inlets, found.outlets), (told.inlets, told.outlets))
            for _ in range(2):
                arrivals = [rng.choice([unit(), some_row(rng), Row([], [rng.randint(0, 90)])]) for _ in told.inlets]
                self.assertEqual(out_by_hand(found, arrivals, 30), with_way_back(told, outlet, inlet, row, arrivals, 30))
            for rows, clock in zip(found.rows, found.clock):
                self.assertTrue(all([is_at_most(some, clock) for some in rows]))

    def test_by_houses(self):
        # A way back that is a link of the house.
        rng = random.Random(92)
        for _ in range(60):
            house = busy_house(rng, lasts=6)
            marks, lasts = rng.randint(1, 3), rng.randint(0, 5)
            links = [("i", "x.i", 0, 0), ("j", "x.j", 0, 0), ("x.o", "o", 0, 0), ("x.p", "p", 0, 0), ("x.p", "x.i", marks, lasts)]
            outer = Module("out", ["i", "j"], ["o", "p"], [], links, [("x", "m")])
            wanted = face(House([house["m"], outer]), "out")
            self.assertEqual(closed(face(house, "m"), "p", "i", room(marks, lasts)), wanted)

    def test_told(self):
        self.assertEqual(closed(ONE, "done", "order", room(1)).rows[0][0], Row((), (5,), 5))
        self.assertEqual(closed(ONE, "done", "order", room(2)), ONE)
        self.assertEqual(closed(ONE, "done", "order", empty()), ONE)
        self.assertEqual(str(closed(ONE, "done", "order", room(2, 8)).clock[0]), "| 5 9 + 13")
        self.assertEqual(closed(ONE, "done", "order", Row([None], [-99], 4)), ONE)
        # Names of places do not get in the way.
        start = face(House([Module("m", ["start"], ["turn"], [], [("start", "turn", 0, 3)])]), "m")
        self.assertEqual(str(closed(start, "turn", "start", room(1)).clock[0]), "| 3 + 3")
        other = face(House([Module("m", ["turn"], ["start"], [], [("turn", "start", 0, 3)])]), "m")
        self.assertEqual(str(closed(other, "start", "turn", room(2)).clock[0]), "| 3 3 + 3")


class WayBackTest(unittest.TestCase):
    def test_greatest(self):
        rng = random.Random(93)
        seen = {"any": 0, "none": 0, "some": 0, "below 0": 0}
        for round_ in range(150):
            told = some_face(rng, inlets="ij"[:rng.randint(1, 2)], outlets="op"[:rng.randint(1, 2)], loose=rng.choice([0.0, 0.4]), lasts=rng.choice([0, 5]))
            outlet, inlet = rng.choice(told.outlets), rng.choice(told.inlets)
            most = way_back(face=told, outlet=outlet, inlet=inlet)
            at = told.inlets.index(inlet)
            self.assertIs(most is None, all([rows[at] == empty() for rows in told.rows]))
            if most is None:
                seen["any"] += 1
                self.assertIs(keeps_face(told, outlet, inlet, some_row(rng)), True)
                self.assertEqual(closed(told, outlet, inlet, some_way(rng)), told)
                continue
            seen["none" if most == empty() else "some"] += 1
            seen["below 0"] += most.time(0) is not None and most.time(0) < 0
            self.assertIs(keeps_face(told, outlet, inlet, most), True)
            kept = later(most, 0, 0) if most.time(0) is None else Row([None, *most.first[1:]], [most.time(max(1, len(most.first)) + n) for n in range(len(most.again))], most.more)
            self.assertEqual(closed(told, outlet, inlet, kept), told)
            # One more from some going on is too much.
            n = rng.randint(1, 6)
            if most != empty():
                time = most.time(n)
                worse = Row([None] * n, [-30 if time is None else time + 1], 0)
                self.assertIs(keeps_face(told, outlet, inlet, worse), is_at_most(worse, most))
                if time is not None:
                    self.assertIs(keeps_face(told, outlet, inlet, worse), False)
                    self.assertNotEqual(closed(told, outlet, inlet, worse), told)
        self.assertGreater(min(seen.values()), 4)

    def test_keeps_face_by_closed(self):
        rng = random.Random(94)
        seen = {True: 0, False: 0}
        for _ in range(250):
            told = some_face(rng, inlets="ij"[:rng.randint(1, 2)], outlets="op"[:rng.randint(1, 2)], lasts=3, loose=0.1)
            outlet, inlet, row = rng.choice(told.outlets), rng.choice(told.inlets), some_way(rng)
            wanted = closed(told, outlet, inlet, row) == told
            self.assertIs(keeps_face(face=told, outlet=outlet, inlet=inlet, row=row), wanted)
            seen[wanted] += 1
        self.assertGreater(min(seen.values()), 25)

    def test_told(self):
        self.assertEqual(way_back(ONE, "done", "order"), Row((), (-5,), 4))
        self.assertIs(keeps_face(ONE, "done", "order", room(1)), False)
        self.assertIs(keeps_face(ONE, "done", "order", room(2)), True)
        # Also with times at 0.
        self.assertIs(keeps_face(ONE, "done", "order", Row((), (-5,), 4)), True)
        self.assertIs(keeps_face(ONE, "done", "order", Row((), (-4,), 3)), False)
        # Clocks count: what comes out at 100 by itself comes back at 100.
        loud = face(House([Module("m", ["i"], ["o"], ["s"], [("s", "o", 0, 100), ("i", "o", 0, 1)])]), "m")
        self.assertEqual(way_back(loud, "o", "i"), Row((), (-1,), 0))
        calm = face(House([Module("m", ["i"], ["o", "p"], ["s"], [("s", "p", 0, 100), ("i", "o", 0, 1)])]), "m")
        self.assertEqual(way_back(calm, "p", "i"), Row((), (-100,), 0))
        self.assertIsNone(way_back(face(House([Module("m", ["i"], ["o"], [], [])]), "m"), "o", "i"))

    def test_order_of_errors(self):
        asks = (lambda outlet, inlet, row: way_back(ONE, outlet, inlet), lambda *given: keeps_face(ONE, *given), lambda *given: closed(ONE, *given))
        for ask in asks:
            for bad in ANY_VALUES:
                self.assertIs(error_of(self, NoPlace, ask, bad, bad, None).name, bad)
                if bad != "order":
                    self.assertIs(error_of(self, NoPlace, ask, "done", bad, None).name, bad)
        for ask in asks[1:]:
            for bad in ANY_VALUES:
                if not isinstance(bad, Row):
                    self.assertEqual(error_of(self, InvalidRow, ask, "done", "order", bad).word, "row")
        for bad in (unit(), Row([-9], [0]), Row([], [3], 4)):
            self.assertEqual(error_of(self, InvalidRow, closed, ONE, "done", "order", bad).word, "row")


if __name__ == "__main__":
    unittest.main()
