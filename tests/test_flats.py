"""Points 13, 14 and 15: modules seen flat, their levels, written out and cut out."""

import random
import unittest

from waitworks.errors import NeverGoes, NoPlace, Refused
from waitworks.flats import asked, cut_out, flat, levels, written, written_out
from waitworks.houses import House, Module

from models import ANY_VALUES, HOUSE, SHOP, feeders_by_hand, flat_by_hand, some_arrivals, some_house, walk

DEEP = House([
    Module("a", ["i"], ["o"], ["s"], [("i", "s", 0, 1), ("s", "o", 0, 2), ("s", "o", 0, 2), ("s", "s", 1, 3)]),
    Module("b", ["i"], ["o"], [], [("i", "x.i", 0, 0), ("x.o", "o", 1, 0)], [("x", "a")]),
    Module("c", [], [], ["s"], [("y.o", "s", 0, 0), ("s", "z.i", 2, 4)], [("y", "b"), ("z", "a")]),
    Module("d", [], [], [], [], []),
    Module("e", [], [], [], [], [("u", "c"), ("v", "d")]),
])


class FlatTest(unittest.TestCase):
    def test_calls_of_calls(self):
        places, links = flat(DEEP, "c")
        self.assertEqual(places, ("s", "y.i", "y.o", "y.x.i", "y.x.o", "y.x.s", "z.i", "z.o", "z.s"))
        self.assertEqual(links, (
            ("s", "z.i", 2, 4), ("y.i", "y.x.i", 0, 0), ("y.o", "s", 0, 0), ("y.x.i", "y.x.s", 0, 1), ("y.x.o", "y.o", 1, 0),
            ("y.x.s", "y.x.o", 0, 2), ("y.x.s", "y.x.o", 0, 2), ("y.x.s", "y.x.s", 1, 3),
            ("z.i", "z.s", 0, 1), ("z.s", "z.o", 0, 2), ("z.s", "z.o", 0, 2), ("z.s", "z.s", 1, 3),
        ))
        self.assertEqual(flat(house=DEEP, name="d"), ((), ()))
        self.assertEqual(len(flat(DEEP, "e")[0]), 9)
        self.assertEqual(flat(HOUSE, "two")[0][0], "a.cut")

    def test_by_hand(self):
        rng = random.Random(1)
        for _ in range(100):
            house = some_house(rng, modules=4)
            for name in house.names:
                found = flat(house, name)
                self.assertEqual(found, flat_by_hand(house, name))
                for thing in (found, *found, *found[1]):
                    self.assertIsInstance(thing, tuple)

    def test_written(self):
        self.assertEqual(written(DEEP, "c", "y.x.s"), ("a", "s"))
        self.assertEqual(written(DEEP, "c", "y.o"), ("b", "o"))
        self.assertEqual(written(DEEP, "c", "s"), ("c", "s"))
        self.assertEqual(written(house=DEEP, name="e", place="u.y.x.i"), ("a", "i"))
        for value in (*ANY_VALUES, "y", "y.", "y.x", "x.s", "c.s", "y.x.s "):
            with self.assertRaises(NoPlace) as caught:
                written(DEEP, "c", value)
            self.assertIs(caught.exception.name, value)

    def test_asked(self):
        self.assertEqual(asked(DEEP, "c"), ("a", "b"))
        self.assertEqual(asked(DEEP, "e"), ("a", "b", "c", "d"))
        self.assertEqual(asked(DEEP, "b"), ("a",))
        self.assertEqual(asked(house=DEEP, name="a"), ())

    def test_no_such_module(self):
        for value in ANY_VALUES:
            for ask in (lambda: flat(DEEP, value), lambda: written(DEEP, value, 5), lambda: asked(DEEP, value),
                        lambda: levels(DEEP, value), lambda: written_out(DEEP, value, "new")):
                if value not in ("a", "b"):
                    with self.assertRaises(NoPlace) as caught:
                        ask()
                    self.assertIs(caught.exception.name, value)


class LevelsTest(unittest.TestCase):
    def test_told(self):
        self.assertEqual(levels(HOUSE, "shop"), (("order", 0), ("cut", 1), ("fold", 2), ("done", 3)))
        self.assertEqual(levels(house=DEEP, name="c"), (
            ("y.i", 0), ("y.o", 0), ("z.i", 0), ("s", 1), ("y.x.i", 1), ("z.s", 1), ("y.x.s", 2), ("z.o", 2), ("y.x.o", 3),
        ))
        self.assertEqual(levels(DEEP, "d"), ())

    def test_by_hand(self):
        rng = random.Random(2)
        for _ in range(150):
            house = some_house(rng, marks=1)
            places, links = flat_by_hand(house, "m")
            level = {place: 0 for place in places}
            for _ in places:
                for first, then, marks, _ in links:
                    if marks == 0:
                        level[then] = max(level[then], level[first] + 1)
            wanted = tuple(sorted(level.items(), key=lambda pair: (pair[1], pair[0])))
            self.assertEqual(levels(house, "m"), wanted)

    def test_rings_that_never_go(self):
        rng = random.Random(3)
        rings = 0
        for _ in range(300):
            stations = ["s", "t", "u", "v"]
            links = [(rng.choice(stations), rng.choice(stations), rng.randint(0, 1), 0) for _ in range(rng.randint(1, 6))]
            waits = [link for link in links if link[2] == 0]
            held = any(link[1] in feeders_by_hand(waits, link[0]) for link in waits)
            module = Module("m", [], [], stations, links)
            if not held:
                House([module])
                continue
            rings += 1
            with self.assertRaises(NeverGoes) as caught:
                House([module])
            ring = caught.exception.ring
            self.assertIsInstance(ring, tuple)
            self.assertEqual(len(set(ring)), len(ring))
            self.assertEqual(ring[0], min(ring))
            for first, then in zip(ring, ring[1:] + ring[:1]):
                self.assertIn((first, then), [link[:2] for link in waits])
        self.assertGreater(rings, 50)


class WrittenOutTest(unittest.TestCase):
    def test_told(self):
        module, names = written_out(DEEP, "c", "new")
        self.assertEqual((module.name, module.inlets, module.outlets, module.calls), ("new", (), (), ()))
        self.assertEqual(module.stations, tuple("abcdefghi"))
        self.assertEqual(names, tuple(zip(flat(DEEP, "c")[0], "abcdefghi")))
        self.assertEqual(module.links[:3], (("a", "g", 2, 4), ("b", "d", 0, 0), ("c", "a", 0, 0)))
        module, names = written_out(house=HOUSE, name="two", new="two")
        self.assertEqual((module.inlets, module.outlets), (("in",), ("out",)))
        self.assertEqual(dict(names)["in"], "in")
        self.assertEqual([place for place, _ in names], sorted(flat(HOUSE, "two")[0]))

    def test_names_that_are_taken(self):
        shop = Module("shop", ["c", "a"], ["e"], ["z", "b"], [("a", "b", 0, 1), ("z", "e", 1, 0), ("a", "b", 0, 0)])
        module, names = written_out(House([shop]), "shop", "x")
        self.assertEqual(module, Module("x", ["c", "a"], ["e"], ["b", "d"], [("a", "b", 0, 0), ("a", "b", 0, 1), ("d", "e", 1, 0)]))
        self.assertEqual(names, (("a", "a"), ("b", "b"), ("c", "c"), ("e", "e"), ("z", "d")))

    def test_more_than_letters(self):
        many = Module("many", ["a", "aa"], [], ["s" + letter for letter in "abcdefghijklmn"], [])
        house = House([many, Module("m", ["b", "ab"], [], [], [], [("x", "many"), ("y", "many")])])
        names = written_out(house, "m", "m")[1]
        self.assertEqual([name for _, name in names[-8:]], ["z", "aa", "ac", "ad", "ae", "af", "ag", "ah"])
        self.assertEqual([name for _, name in names[:4]], ["ab", "b", "a", "c"])

    def test_does_the_same(self):
        rng = random.Random(4)
        for _ in range(80):
            house = some_house(rng, modules=3)
            module, names = written_out(house, "m", "new")
            arrivals = some_arrivals(rng, house["m"])
            times, same = walk(house, "m", arrivals, 20), walk(House([module]), "new", arrivals, 20)
            self.assertEqual({name: times[place] for place, name in names}, same)
            self.assertEqual(list(module.links), sorted(module.links))
            self.assertEqual((module.inlets, module.outlets), (house["m"].inlets, house["m"].outlets))


class CutOutTest(unittest.TestCase):
    def test_told(self):
        inner, outer = cut_out(SHOP, ["fold", "cut"], "late", "c")
        self.assertEqual(inner, Module("late", ["a"], ["b"], ["fold", "cut"], [("a", "cut", 0, 0), ("cut", "fold", 0, 3), ("fold", "cut", 1, 1), ("fold", "b", 0, 0)]))
        self.assertEqual(outer, Module("shop", ["order"], ["done"], [], [("order", "c.a", 0, 0), ("c.b", "done", 0, 2)], [("c", "late")]))
        inner, outer = cut_out(module=SHOP, stations=(), name="none", label="c")
        self.assertEqual(inner, Module("none", [], [], [], []))
        self.assertEqual(outer, Module("shop", ["order"], ["done"], ["cut", "fold"], SHOP.links, [("c", "none")]))

    def test_names_that_are_taken(self):
        module = Module(
            "e", ["a"], ["c"], ["s", "t", "u"],
            [("a", "t", 0, 1), ("t", "c", 0, 2), ("s", "t", 1, 3), ("t", "s", 2, 4), ("u", "s", 0, 5), ("t", "u", 1, 6), ("b.q", "t", 0, 7), ("t", "t", 1, 8)],
            [("b", "p")],
        )
        inner, outer = cut_out(module, ["t", "s"], "x", "d")
        self.assertEqual(inner.inlets, ("d", "e", "f"))
        self.assertEqual(inner.outlets, ("g",))
        self.assertEqual(inner.links, (
            ("d", "t", 0, 0), ("e", "s", 0, 0), ("f", "t", 0, 0), ("s", "t", 1, 3), ("t", "s", 2, 4), ("t", "t", 1, 8), ("t", "g", 0, 0),
        ))
        self.assertEqual(outer.links, (
            ("a", "d.d", 0, 1), ("d.g", "c", 0, 2), ("u", "d.e", 0, 5), ("d.g", "u", 1, 6), ("b.q", "d.f", 0, 7),
        ))
        self.assertEqual((outer.name, outer.stations, outer.calls), ("e", ("u",), (("b", "p"), ("d", "x"))))

    def test_all_goes_as_ahead(self):
        rng = random.Random(5)
        cuts = 0
        for _ in range(150):
            house = some_house(rng, modules=2, links=9)
            module = house["m"]
            some = [station for station in module.stations if rng.random() < 0.5]
            rng.shuffle(some)
            inner, outer = cut_out(module, some, "new", "l")
            cuts += len(some) > 1
            self.assertEqual(inner.stations, tuple(some))
            arrivals = some_arrivals(rng, module)
            times = walk(house, "m", arrivals, 20)
            same = walk(House([*house.modules[:-1], inner, outer]), "m", arrivals, 20)
            for place, row in times.items():
                self.assertEqual(same["l." + place if place in some else place], row)
        self.assertGreater(cuts, 20)

    def test_refused(self):
        for value in ANY_VALUES:
            if not isinstance(value, (list, tuple)):
                with self.assertRaises(Refused) as caught:
                    cut_out(SHOP, value, "late", "c")
                self.assertEqual(caught.exception.at, 0)
            for stations, at in (([value], 0), (["cut", value], 1), (("fold", "cut", value, "x"), 2)):
                with self.assertRaises(Refused) as caught:
                    cut_out(SHOP, stations, "late", "c")
                self.assertEqual(caught.exception.at, at)
        for stations, at in ((["cut", "cut"], 1), (["cut", "fold", "cut"], 2), (["order"], 0), (["cut", "done"], 1), (["x", "cut", "cut"], 0)):
            with self.assertRaises(Refused) as caught:
                cut_out(SHOP, stations, "late", "c")
            self.assertEqual(caught.exception.at, at)


if __name__ == "__main__":
    unittest.main()
