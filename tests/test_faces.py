"""Points 28, 29 and 31: faces, and what goes by faces alone."""

import random
import unittest

from waitworks.errors import InvalidArrivals, NeverGoes, NoPlace
from waitworks.faces import Face, face, face_with, in_row, out
from waitworks.flats import cut_out, written_out
from waitworks.houses import House, Module
from waitworks.lates import late_run
from waitworks.rates import rate
from waitworks.rows import Row, empty, is_at_most, unit
from waitworks.runs import run

from models import ANY_VALUES, HOUSE, busy_house, error_of, flat_by_hand, out_by_hand, some_arrivals, some_house, things, walk


def row_by_hand(links, inlet, outlet, many):
    """The greatest sums of lasts on ways with at most so many marks, by the ways themselves."""
    sums = {(inlet, 0): 0}
    for n in range(many):
        for _ in range(30):
            for first, then, marks, lasts in links:
                if n >= marks and (first, n - marks) in sums:
                    sums[then, n] = max(sums[first, n - marks] + lasts, sums.get((then, n), -1))
        for place in {place for place, _ in sums}:
            if (place, n) in sums:
                sums[place, n + 1] = max(sums[place, n], sums.get((place, n + 1), -1))
    return [sums.get((outlet, n)) for n in range(many)]


class FaceTest(unittest.TestCase):
    def test_by_runs(self):
        rng = random.Random(41)
        seen = {"no inlet": 0, "no outlet": 0, "nothing ahead": 0, "empty": 0, "clock above": 0}
        for round_ in range(200):
            house = some_house(rng, lasts=rng.choice([2, 9])) if round_ % 2 else busy_house(rng, inlets="ij"[:rng.randint(0, 2)], lasts=9)
            module, told = house["m"], face(house, "m")
            self.assertIsInstance(told, Face)
            self.assertEqual((told.inlets, told.outlets), (module.inlets, module.outlets))
            self.assertEqual([len(rows) for rows in told.rows], [len(module.inlets)] * len(module.outlets))
            self.assertEqual(len(told.clock), len(module.outlets))
            arrivals = some_arrivals(rng, module)
            found = out(told, arrivals)
            times = walk(house, "m", arrivals, 50)
            self.assertEqual([things(row, 50) for row in found], [times[outlet] for outlet in module.outlets])
            self.assertEqual(out_by_hand(told, arrivals, 50), [times[outlet] for outlet in module.outlets])
            rows = dict(run(house, "m", arrivals))
            self.assertEqual(found, tuple([rows[outlet] for outlet in module.outlets]))
            self.assertEqual(out(told, [unit()] * len(module.inlets)), told.clock)
            for some, clock in zip(told.rows, told.clock):
                for row in some:
                    self.assertTrue(is_at_most(row, clock))
                    seen["nothing ahead"] += row.time(0) is None and row != empty()
                    seen["empty"] += row == empty()
                    seen["clock above"] += row != clock
            seen["no inlet"] += not module.inlets
            seen["no outlet"] += not module.outlets
        self.assertGreater(min(seen.values()), 20)

    def test_rows_by_ways(self):
        rng = random.Random(42)
        for _ in range(40):
            house = some_house(rng, lasts=5)
            module, links = house["m"], flat_by_hand(house, "m")[1]
            told = face(house, "m")
            for outlet, rows in zip(module.outlets, told.rows):
                for inlet, row in zip(module.inlets, rows):
                    self.assertEqual(things(row, 15), row_by_hand(links, inlet, outlet, 15))

    def test_told(self):
        one = face(HOUSE, "shop")
        self.assertEqual((one.inlets, one.outlets), (("order",), ("done",)))
        self.assertEqual((str(one.rows[0][0]), str(one.clock[0])), ("| 5 + 4", "| 5 + 4"))
        self.assertEqual(str(out(one, [Row([], [0], 6)])[0]), "| 5 + 6")
        self.assertEqual(str(face(house=HOUSE, name="two").rows[0][0]), "| 11 + 4")
        alone = face(House([Module("m", ["i"], ["o", "p"], ["s"], [("s", "o", 0, 2), ("s", "s", 1, 3), ("i", "p", 2, 1)])]), "m")
        self.assertEqual([[str(row) for row in rows] for rows in alone.rows], [["| - + 0"], ["- - | 1 + 0"]])
        self.assertEqual([str(row) for row in alone.clock], ["| 2 + 3", "0 0 | 1 + 0"])
        self.assertEqual(face(House([Module("m", ["i"], ["o"], [], [])]), "m").clock, (unit(),))
        nothing = face(House([Module("m", [], [], [], [])]), "m")
        self.assertEqual((nothing.inlets, nothing.outlets, nothing.rows, nothing.clock), ((), (), (), ()))
        self.assertEqual(out(nothing, []), ())

    def test_clocks_above_all_rows(self):
        # What comes out at 100 by itself, whatever arrives.
        house = House([Module("m", ["i"], ["o"], ["s"], [("s", "o", 0, 100), ("i", "o", 0, 1)])])
        told = face(house, "m")
        self.assertEqual((str(told.rows[0][0]), str(told.clock[0])), ("| 1 + 0", "| 100 + 0"))
        self.assertEqual(str(out(told, [Row([50], [150], 7)])[0]), "100 | 151 + 7")

    def test_equal(self):
        other = House([Module("shop", ["order"], ["done"], ["x"], [("order", "x", 0, 5), ("x", "x", 1, 4), ("x", "done", 0, 0)])])
        self.assertEqual(face(other, "shop"), face(HOUSE, "shop"))
        self.assertNotEqual(face(HOUSE, "two"), face(HOUSE, "shop"))
        for links in ([("order", "done", 0, 5)], [("order", "x", 0, 5), ("x", "x", 1, 4), ("x", "done", 0, 0), ("y", "done", 0, 6)]):
            slow = House([Module("shop", ["order"], ["done"], ["x", "y"], links)])
            self.assertFalse(face(slow, "shop") == face(HOUSE, "shop"))
        named = House([Module("shop", ["in"], ["done"], ["x"], [("in", "x", 0, 5), ("x", "x", 1, 4), ("x", "done", 0, 0)])])
        self.assertNotEqual(face(named, "shop"), face(HOUSE, "shop"))
        for value in ANY_VALUES:
            self.assertFalse(face(HOUSE, "shop") == value)
        self.assertRaises(TypeError, list, face(HOUSE, "shop"))

    def test_written_out_and_cut_out_modules(self):
        rng = random.Random(43)
        for _ in range(60):
            house = some_house(rng, lasts=6)
            told = face(house, "m")
            self.assertEqual(face(House([written_out(house, "m", "n")[0]]), "n"), told)
            stations = list(house["m"].stations)
            rng.shuffle(stations)
            inner, outer = cut_out(house["m"], stations[:rng.randint(0, 4)], "zz", "cc")
            self.assertEqual(face(House([*house.modules[:-1], inner, outer]), "m"), told)

    def test_rates_of_outlets(self):
        rng = random.Random(44)
        for _ in range(60):
            house = busy_house(rng, lasts=9)
            told = face(house, "m")
            for outlet, clock, rows in zip(told.outlets, told.clock, told.rows):
                self.assertEqual(clock.rate, rate(house, "m", outlet))
                for row in rows:
                    self.assertLessEqual(row.rate[0] * clock.rate[1], clock.rate[0] * row.rate[1])

    def test_late_arrivals(self):
        # What late goings of an inlet make of the outlets, the face tells, too.
        rng = random.Random(45)
        for _ in range(60):
            house = busy_house(rng, lasts=9)
            arrivals, n, d = some_arrivals(rng, house["m"]), rng.randint(0, 5), rng.randint(0, 20)
            late = dict(late_run(house, "m", arrivals, [("i", n, d)]))
            told = out(face(house, "m"), [late["i"], arrivals[1]])
            self.assertEqual(told, (late["o"], late["p"]))

    def test_errors(self):
        for bad in ANY_VALUES:
            if bad not in ("shop", "two"):
                self.assertIs(error_of(self, NoPlace, face, HOUSE, bad).name, bad)
                self.assertIs(error_of(self, NoPlace, face_with, HOUSE, bad, []).name, bad)
            if bad not in ([Row((), (0,))],):
                self.assertEqual(error_of(self, InvalidArrivals, out, face(HOUSE, "shop"), bad).at, 0)
        wide = face(busy_house(random.Random(1)), "m")
        for bad, at in (([unit()], 0), ([None, None], 0), ([unit(), None], 1), ([unit(), Row([-1], [0])], 1), ([unit(), empty()], 1),
                        ((Row([None], [3], 2), unit()), 0), ([unit(), unit(), unit()], 0), ([Row([0], [1]), HOUSE], 1)):
            self.assertEqual(error_of(self, InvalidArrivals, out, wide, bad).at, at)


class InRowTest(unittest.TestCase):
    def test_by_houses(self):
        rng = random.Random(46)
        for _ in range(80):
            middle = rng.randint(0, 2)
            one = busy_house(rng, inlets="ij"[:rng.randint(0, 2)], outlets="op"[:middle], lasts=9, name="a")
            other = busy_house(rng, inlets="kl"[:middle], outlets="op"[:rng.randint(0, 2)], lasts=9, name="b")
            first, then = one["a"], other["b"]
            links = [(inlet, "x." + inlet, 0, 0) for inlet in first.inlets]
            links += [("x." + end, "y." + begin, 0, 0) for end, begin in zip(first.outlets, then.inlets)]
            links += [("y." + outlet, outlet, 0, 0) for outlet in then.outlets]
            both = Module("m", first.inlets, then.outlets, [], links, [("x", "a"), ("y", "b")])
            self.assertEqual(in_row(face(one, "a"), face(other, "b")), face(House([first, then, both]), "m"))

    def test_told(self):
        one = face(HOUSE, "shop")
        twice = in_row(one=one, other=one)
        self.assertEqual((twice.inlets, twice.outlets, str(twice.rows[0][0])), (("order",), ("done",), "| 10 + 4"))
        self.assertEqual(str(in_row(twice, one).clock[0]), "| 15 + 4")
        # Names of inlets and outlets do not get in each other's way.
        same = face(House([Module("m", ["o"], ["i"], [], [("o", "i", 1, 2)])]), "m")
        other = face(House([Module("m", ["i"], ["o"], [], [("i", "o", 1, 2)])]), "m")
        self.assertEqual((in_row(same, other).inlets, in_row(same, other).outlets), (("o",), ("o",)))
        self.assertEqual(str(in_row(same, other).rows[0][0]), "- - | 4 + 0")


class FaceWithTest(unittest.TestCase):
    def test_by_houses(self):
        rng = random.Random(47)
        seen = {"goes": 0, "never": 0}
        for _ in range(500):
            limits = {"inlets": "ij", "outlets": "op", "stations": 2, "more": 1, "lasts": 6}
            a, b = busy_house(rng, name="a", **limits)["a"], busy_house(rng, name="b", **limits)["b"]
            others = [busy_house(rng, name=name, **limits)[name] for name in "cd"]
            begins = ["g", "s", "t", "x.o", "x.p", "y.o", "y.p"]
            ends = ["z", "s", "t", "x.i", "x.j", "y.i", "y.j"]
            links = [(rng.choice(begins), rng.choice(ends), rng.randint(0, 1), rng.randint(0, 5)) for _ in range(9)]
            labels = rng.choice([[], ["x"], ["y"], ["x", "y"], ["y", "x"]])
            told = [(label, face(House(others), called)) for label, called in zip(labels, "cd")]
            calls = {"x": "a", "y": "b", **dict(zip(labels, "cd"))}
            try:
                house = House([a, b, Module("m", ["g"], ["z"], ["s", "t"], links, [("x", "a"), ("y", "b")])])
            except NeverGoes:
                continue
            try:
                wanted = face(House([a, b, *others, Module("m", ["g"], ["z"], ["s", "t"], links, list(calls.items()))]), "m")
            except NeverGoes:
                ring = error_of(self, NeverGoes, face_with, house, "m", told).ring
                self.check_ring(ring, links, {**{"x": face(house, "a"), "y": face(house, "b")}, **dict(told)})
                seen["never"] += 1
                continue
            seen["goes"] += 1
            self.assertEqual(face_with(house=house, name="m", faces=tuple(told)), wanted)
        self.assertGreater(min(seen.values()), 20)

    def check_ring(self, ring, links, faces):
        self.assertIsInstance(ring, tuple)
        self.assertEqual(len(set(ring)), len(ring))
        self.assertEqual(min(ring), ring[0])
        for first, then in zip(ring, ring[1:] + ring[:1]):
            by_link = any([link[:3] == (first, then, 0) for link in links])
            label, _, end = first.partition(".")
            inside = "." in first and then.startswith(label + ".") and then[2:] in faces[label].outlets and end in faces[label].inlets
            if inside:
                told = faces[label]
                inside = told.rows[told.outlets.index(then[2:])][told.inlets.index(end)].time(0) is not None
            self.assertTrue(by_link or inside)

    def test_told(self):
        fast = face(House([Module("fast", ["order"], ["done"], [], [("order", "done", 0, 1)])]), "fast")
        self.assertEqual(face_with(HOUSE, "two", []), face(HOUSE, "two"))
        self.assertEqual(str(face_with(HOUSE, "two", [("a", fast)]).rows[0][0]), "| 7 + 4")
        self.assertEqual(str(face_with(HOUSE, "two", [("b", fast), ("a", fast)]).rows[0][0]), "| 3 + 0")
        # A ring that has a mark in the house alone: there the called module has one from its inlet to its outlet.
        inner = Module("inner", ["i"], ["o"], [], [("i", "o", 1, 1)])
        outer = Module("outer", ["g"], ["z"], ["s"], [("c.o", "s", 0, 1), ("s", "c.i", 0, 1), ("g", "s", 0, 0)], [("c", "inner")])
        house = House([inner, outer])
        plain = face(House([Module("m", ["i"], ["o"], [], [("i", "o", 0, 0)])]), "m")
        self.assertEqual(error_of(self, NeverGoes, face_with, house, "outer", [("c", plain)]).ring, ("c.i", "c.o", "s"))
        cut = face(House([Module("m", ["i"], ["o"], [], [])]), "m")
        self.assertEqual(str(face_with(house, "outer", [("c", cut)]).clock[0]), "| 0 + 0")

    def test_faces_alone(self):
        # A called module with another clock, inlets that reach nothing, and places that go by themselves.
        loud = face(House([Module("m", ["order"], ["done"], ["s"], [("s", "done", 0, 30), ("s", "s", 2, 3)])]), "m")
        self.assertEqual([str(row) for row in face_with(HOUSE, "two", [("b", loud)]).clock], ["| 30 30 + 3"])
        self.assertEqual(face_with(HOUSE, "two", [("b", loud)]).rows[0][0], empty())


if __name__ == "__main__":
    unittest.main()
