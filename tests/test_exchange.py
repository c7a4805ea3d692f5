"""Points 86 and 87: what can be exchanged, and modules made of faces."""

import itertools
import random
import unittest

from waitworks.errors import NeverGoes, NoPlace
from waitworks.exchange import can_change, first_change, made_of, swaps
from waitworks.faces import face, in_row, out
from waitworks.houses import House, Module
from waitworks.rows import unit

from models import ANY_VALUES, HOUSE, SHOP, busy_house, error_of, out_by_hand, some_house, some_row
from test_choices import LATER, SLOW, some_menu_house


def swapped_by_hand(house, one, other):
    """The house in which the module m has two of its calls exchanged."""
    module = house["m"]
    calls = dict(module.calls)
    calls[one], calls[other] = calls[other], calls[one]
    calls = [(label, calls[label]) for label, _ in module.calls]
    return house.with_module(Module("m", module.inlets, module.outlets, module.stations, module.links, calls))


class SwapTest(unittest.TestCase):
    def test_by_hand(self):
        rng = random.Random(261)
        seen = {"same": 0, "swap": 0, "no": 0, "never": 0}
        while min(seen.values()) < 12:
            parts, module, rest, _ = some_menu_house(rng)
            if rng.random() < 0.4:
                # Links at which it does not matter where they begin.
                module = Module("m", ["i"], ["o"], [], [("i", label + "." + end, 0, 0) for label, _ in module.calls for end in parts[0].inlets]
                                + [(label + "." + end, "o", 0, 0) for label, _ in module.calls for end in parts[0].outlets], module.calls)
                rest = []
            try:
                house = House([*parts, module, *rest])
            except NeverGoes:
                continue
            wanted = []
            for one, other in itertools.combinations(sorted(dict(module.calls)), 2):
                try:
                    stays = face(swapped_by_hand(house, one, other), "m") == face(house, "m")
                except NeverGoes:
                    seen["never"] += 1
                    continue
                same = face(house, dict(module.calls)[one]) == face(house, dict(module.calls)[other])
                seen["same" if same else "swap" if stays else "no"] += 1
                if stays:
                    wanted.append((one, other))
            self.assertEqual(swaps(house=house, name="m"), tuple(wanted))

    def test_told(self):
        self.assertEqual((swaps(HOUSE, "two"), swaps(HOUSE, "shop")), ((("a", "b"),), ()))
        links = [("in", "b.order", 0, 0), ("b.done", "a.order", 0, 0), ("a.done", "out", 0, 0)]
        for parts, wanted in (((SHOP, SLOW), (("a", "b"),)), ((SHOP, LATER), ()), ((SHOP, SHOP), (("a", "b"),))):
            module = Module("m", ["in"], ["out"], [], links, [("b", parts[0].name), ("a", parts[1].name)])
            house = House([*{part.name: part for part in parts}.values(), module])
            self.assertEqual(swaps(house, "m"), wanted)
        # Unlike inlets or outlets: neither can be called there.
        for inlets, outlets in ((["order"], ["o"]), (["i"], ["done"]), ([], ["done"]), (["order", "i"], ["done"])):
            other = Module("x", inlets, outlets, [], [])
            house = House([LATER, other, Module("m", [], [], [], [], [("a", "late"), ("b", "x"), ("c", "late")])])
            self.assertEqual(swaps(house, "m"), (("a", "c"),))
        for value in ANY_VALUES:
            if value != "shop":
                self.assertIs(error_of(self, NoPlace, swaps, HOUSE, value).name, value)

    def test_what_is_called_by_others_stays(self):
        # Only calls that the module makes itself are exchanged.
        inner = Module("x", ["in"], ["out"], [], [("in", "a.order", 0, 0), ("a.done", "out", 0, 0)], [("a", "shop")])
        house = House([SHOP, SLOW, inner, Module("m", ["i"], ["o"], [], [("i", "y.in", 0, 0), ("y.out", "o", 0, 0)], [("y", "x"), ("z", "slow")])])
        self.assertEqual(swaps(house, "m"), ())


class ChangeTest(unittest.TestCase):
    def test_by_hand(self):
        rng = random.Random(262)
        seen = {True: 0, False: 0, "late": 0}
        while min(seen.values()) < 20:
            faces = [face(busy_house(rng, inlets="i", outlets="o", stations=rng.randint(0, 2), more=2, lasts=rng.choice([1, 3]), marks=rng.choice([1, 2])), "m") for _ in range(2)]
            early = [unit()]
            ways = [out_by_hand(last, [out(first, early)[0]], 30)[0] for first, last in (faces, faces[::-1])]
            wanted = min([n for n in range(30) if ways[0][n] != ways[1][n]], default=None)
            self.assertEqual(first_change(one=faces[0], other=faces[1]), wanted)
            self.assertIs(can_change(one=faces[0], other=faces[1]), wanted is None)
            seen[wanted is None] += 1
            seen["late"] += wanted is not None and wanted > 0
            for _ in range(3):
                came = [some_row(rng)]
                if wanted is None:
                    self.assertEqual(out(in_row(*faces), came), out(in_row(*faces[::-1]), came))

    def test_told(self):
        one, other = face(HOUSE, "shop"), face(House([SLOW]), "slow")
        self.assertEqual((can_change(one, other), first_change(one, other), first_change(one, one)), (True, None, None))
        # All goings of the one come at 9 at least: only behind the other one that tells something.
        late = face(House([Module("m", ["i"], ["o"], ["s"], [("s", "o", 0, 9), ("i", "o", 0, 0)])]), "m")
        self.assertEqual((can_change(late, one), first_change(late, one)), (False, 0))


class MadeTest(unittest.TestCase):
    def test_faces_come_again(self):
        rng = random.Random(263)
        seen = {"rings": 0, "first": 0, "empty": 0, "clock": 0}
        for _ in range(150):
            house = some_house(rng, lasts=rng.choice([2, 9]), marks=3) if rng.random() < 0.5 else busy_house(rng, more=rng.randint(0, 6), lasts=rng.choice([3, 50]), loose=0.2)
            wanted = face(house, "m")
            made = made_of(wanted=wanted, name="made")
            self.assertIsInstance(made, Module)
            self.assertEqual((made.name, made.calls, made.inlets, made.outlets), ("made", (), wanted.inlets, wanted.outlets))
            self.assertEqual(face(House([made]), "made"), wanted)
            rows = [row for some in wanted.rows for row in some]
            seen["rings"] += any([row.more > 0 for row in rows])
            seen["first"] += any([len(row.first) > 2 for row in rows])
            seen["empty"] += any([row.again[0] is None for row in rows])
            seen["clock"] += any([clock.time(0) > 0 and all([row != clock for row in some]) for clock, some in zip(wanted.clock, wanted.rows)])
        self.assertGreater(min(seen.values()), 15)

    def test_told(self):
        wanted = face(HOUSE, "two")
        self.assertEqual(face(House([made_of(wanted, "made")]), "made"), wanted)
        # A late start: what goes around must not go ahead of it by itself.
        late = Module("m", ["a"], ["b"], ["s"], [("a", "s", 9, 0), ("s", "b", 0, 0), ("s", "s", 1, 5)])
        for links in (late.links, [("a", "b", 30, 0)], [("a", "s", 3, 7), ("s", "s", 2, 1), ("s", "b", 4, 0)], []):
            wanted = face(House([Module("m", ["a"], ["b"], ["s"], links)]), "m")
            self.assertEqual(face(House([made_of(wanted, "m")]), "m"), wanted)
        bare = face(House([Module("m", [], [], [], [])]), "m")
        self.assertEqual(made_of(bare, "m").links, ())
        self.assertEqual(face(House([made_of(bare, "m")]), "m"), bare)


    def test_long_rows(self):
        # What grows more gets ahead only after hundreds of goings.
        for quick, slow, late in (((1, 50), (1, 49), 500), ((2, 99), (1, 49), 300), ((2, 50), (3, 74), 400), ((1, 50), (1, 49), 50), ((3, 10), (3, 10), 5)):
            links = [("i", "s", 0, 0), ("s", "s", *quick), ("s", "o", 0, 0), ("i", "t", 0, late), ("t", "t", *slow), ("t", "o", 1, 0)]
            wanted = face(House([Module("m", ["i"], ["o"], ["s", "t"], links)]), "m")
            made = made_of(wanted, "m")
            self.assertEqual(face(House([made]), "m"), wanted)
            self.assertLess(len(made.links), 300)


if __name__ == "__main__":
    unittest.main()
