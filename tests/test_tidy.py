"""Points 80 to 83: needless links, and places in step."""

import random
import unittest

from waitworks.errors import NeverGoes, Refused
from waitworks.faces import face
from waitworks.houses import House, Module
from waitworks.rows import Row, unit
from waitworks.runs import run
from waitworks.tidy import groups, link_parting, link_parting_holds, needless

from models import ANY_VALUES, HOUSE, SHOP, busy_house, error_of, some_arrivals, some_module, walk

WIDE = Module("wide", ["order"], ["done"], ["cut", "fold", "look"], [*SHOP.links, ("cut", "done", 0, 4), ("fold", "look", 0, 0)])
NEVER = Module("m", ["i"], [], ["s", "t"], [("s", "t", 0, 1), ("t", "s", 0, 0)])
MANY = 40


def tidy_module(rng, lasts=2, marks=2):
    """A module by chance without calls, in which everything goes."""
    if rng.random() < 0.3:
        while True:
            module = some_module(rng, "m", stations=3, links=6, lasts=lasts, marks=marks)
            try:
                House([module])
                return module
            except NeverGoes:
                pass
    ends = {"inlets": rng.choice(["", "i", "ij"]), "outlets": rng.choice(["o", "op"])}
    return busy_house(rng, stations=rng.randint(1, 3), more=rng.randint(0, 4), lasts=lasts, marks=marks, loose=0.2, **ends)["m"]


def without(module, at):
    links = [link for number, link in enumerate(module.links) if number != at]
    return Module(module.name, module.inlets, module.outlets, module.stations, links)


def probes(module):
    """Arrivals that tell all rows, by the words of the document: all at 0, and one inlet very late."""
    inlets = len(module.inlets)
    found = [[unit()] * inlets]
    for at in range(inlets):
        found.append([Row((), (10 ** 6 if at == other else 0,)) for other in range(inlets)])
    return found


def goes(module, arrivals, many=MANY):
    return walk(House([module]), module.name, arrivals, many)


class NeedlessTest(unittest.TestCase):
    def test_by_hand(self):
        rng = random.Random(241)
        seen = {"needless": 0, "needed": 0, "by clock": 0, "by inlet": 0}
        while min(seen.values()) < 30:
            module = tidy_module(rng)
            found = needless(module=module)
            wanted = []
            for at in range(len(module.links)):
                bare = without(module, at)
                same = all([goes(module, arrivals) == goes(bare, arrivals) for arrivals in probes(module)])
                parting = link_parting(module=module, at=at)
                self.assertIs(parting is None, same)
                if same:
                    wanted.append(at)
                    seen["needless"] += 1
                    arrivals = some_arrivals(rng, module)
                    self.assertEqual(run(House([module]), "m", arrivals), run(House([bare]), "m", arrivals))
                    continue
                seen["needed"] += 1
                arrivals, place, n = parting
                self.assertIsInstance(arrivals, tuple)
                self.assertNotEqual(goes(module, arrivals, n + 1)[place][n], goes(bare, arrivals, n + 1)[place][n])
                self.assertIs(link_parting_holds(module=module, at=at, value=parting), True)
                early = all([row == unit() for row in arrivals])
                seen["by clock" if early else "by inlet"] += 1
            self.assertEqual(found, tuple(wanted))

    def test_edges(self):
        # Each of two equal links is needless, but only alone.
        twin = Module("m", ["i"], ["o"], [], [("i", "o", 0, 1), ("i", "o", 0, 1), ("i", "o", 0, 0)])
        self.assertEqual(needless(twin), (0, 1, 2))
        self.assertEqual(needless(without(twin, 0)), (1,))
        # What counts from some going on only.
        slow = Module("m", [], [], ["s", "t"], [("s", "s", 1, 2), ("t", "t", 1, 3), ("s", "t", 0, 9), ("t", "t", 2, 5)])
        self.assertEqual(needless(slow), (3,))
        # For the clock alone it does nothing.
        late = Module("m", ["i"], ["o"], ["s"], [("s", "s", 1, 2), ("s", "o", 0, 1), ("i", "o", 0, 0)])
        self.assertEqual(needless(late), ())
        self.assertEqual(link_parting(late, 2)[1:], ("o", 0))
        self.assertEqual(needless(Module("m", ["i"], ["o"], ["s"], [("i", "s", 1, 0), ("s", "s", 1, 0), ("s", "s", 3, 0)])), (1, 2))
        self.assertEqual(needless(Module("m", ["i"], ["o"], ["s"], [])), ())
        self.assertEqual(needless(Module("m", [], [], ["s", "t"], [("s", "t", 0, 0), ("s", "t", 5, 0)])), (0, 1))

    def test_told(self):
        self.assertEqual((needless(WIDE), link_parting(WIDE, 4)), ((4,), None))
        self.assertEqual(needless(SHOP), ())

    def test_holds(self):
        rng = random.Random(242)
        seen = {True: 0, False: 0}
        while min(seen.values()) < 100:
            module = tidy_module(rng)
            places = module.inlets + module.outlets + module.stations
            if not module.links or not places:
                continue
            at = rng.randrange(len(module.links))
            value = (tuple(some_arrivals(rng, module, high=6)), rng.choice(places), rng.randint(0, 12))
            one, other = goes(module, value[0], 13), goes(without(module, at), value[0], 13)
            wanted = one[value[1]][value[2]] != other[value[1]][value[2]]
            self.assertIs(link_parting_holds(module, at, value), wanted)
            seen[wanted] += 1

    def test_any_values(self):
        early = (unit(),)
        self.assertIs(link_parting_holds(SHOP, 1, (early, "fold", 0)), True)
        self.assertIs(link_parting_holds(SHOP, 1, (early, "done", 10 ** 15)), True)
        for value in ([early, "fold", 0], (list(early), "fold", 0), ((), "fold", 0), (early * 2, "fold", 0), (early, "fold", False), (early, "fold", -1), (early, "x", 0), (early, "cut", 0),
                      (early, "fold"), (early, "fold", 0, 0), ((Row((), (-1,)),), "fold", 0), ((Row([None], [0]),), "fold", 0), (early, ("fold",), 0)):
            self.assertIs(link_parting_holds(SHOP, 1, value), False)
        for value in ANY_VALUES:
            for other in (value, (value, "fold", 0), ((value,), "fold", 0), (early, value, 0)):
                if value != Row((), (0,)):
                    self.assertIs(link_parting_holds(SHOP, 1, other), False)
            self.assertIs(link_parting_holds(SHOP, 1, (early, "fold", value)), value in (0, 1, 10 ** 15) and not isinstance(value, bool))

    def test_wrong_numbers(self):
        for ask in (link_parting, lambda module, at: link_parting_holds(module, at, None)):
            for value in [*ANY_VALUES, 4, 5, -1, -4]:
                if value not in (0, 1) or isinstance(value, bool):
                    self.assertIs(error_of(self, Refused, ask, SHOP, value).at, value)
                self.assertEqual(sorted(error_of(self, NeverGoes, ask, NEVER, value).ring), ["s", "t"])
        for ask in (needless, groups):
            self.assertEqual(error_of(self, NeverGoes, ask, NEVER).ring, ("s", "t"))


class GroupsTest(unittest.TestCase):
    def test_by_hand(self):
        rng = random.Random(243)
        seen = {"lots": 0, "offset": 0, "with inlet": 0, "early inlet": 0}
        while min(seen.values()) < 20:
            module = tidy_module(rng, lasts=rng.choice([0, 1, 2]), marks=1)
            places = sorted(module.inlets + module.outlets + module.stations)
            times = [goes(module, arrivals) for arrivals in probes(module)]
            wanted = []
            for place in places:
                for lot in wanted:
                    gaps = {one - other for some in times for one, other in zip(some[place], some[lot[0]])}
                    if len(gaps) == 1:
                        lot.append(place)
                        break
                else:
                    wanted.append([place])
            starts = {place: times[0][place][0] for place in places}
            lots = tuple([tuple([(place, starts[place] - min([starts[one] for one in lot])) for place in lot]) for lot in wanted])
            self.assertEqual(groups(module=module), lots)
            seen["lots"] += any([len(lot) > 1 for lot in lots])
            seen["offset"] += any([offset > 0 for lot in lots for _, offset in lot])
            mixed = [lot for lot in lots if len(lot) > 1 and any([place in module.inlets for place, _ in lot])]
            seen["with inlet"] += len(mixed) > 0
            seen["early inlet"] += any([offset > 0 for lot in mixed for _, offset in lot])

    def test_edges(self):
        self.assertEqual(groups(WIDE), ((("cut", 0), ("done", 5), ("fold", 3), ("look", 3)), (("order", 0),)))
        self.assertEqual(groups(Module("m", [], [], [], [])), ())
        self.assertEqual(groups(Module("m", ["i", "j"], ["o"], ["s"], [])), ((("i", 0),), (("j", 0),), (("o", 0), ("s", 0))))
        # All arrivals at 0 do not tell these apart.
        self.assertEqual(groups(Module("m", ["i", "j"], ["o", "p"], [], [("i", "o", 0, 0), ("j", "p", 0, 0)])), ((("i", 0), ("o", 0)), (("j", 0), ("p", 0))))
        self.assertEqual(groups(Module("m", ["i"], ["o"], ["s"], [("i", "s", 0, 4), ("s", "o", 1, 0)])), ((("i", 0), ("s", 4)), (("o", 0),)))
        # An inlet is in step with what goes behind it, and never later.
        self.assertEqual(groups(Module("m", ["z"], ["a"], ["s"], [("z", "s", 0, 2), ("z", "a", 0, 1)])), ((("a", 1), ("s", 2), ("z", 0)),))
        self.assertEqual(groups(Module("m", [], ["o"], ["s"], [("s", "o", 0, 4), ("s", "s", 1, 3)])), ((("o", 4), ("s", 0)),))


class FaceTest(unittest.TestCase):
    def test_needless_links_keep_the_face(self):
        rng = random.Random(244)
        seen = 0
        while seen < 40:
            module = tidy_module(rng)
            for at in needless(module):
                seen += 1
                self.assertEqual(face(House([module]), "m"), face(House([without(module, at)]), "m"))
        self.assertEqual(face(HOUSE, "shop").rows, face(House([WIDE]), "wide").rows)


if __name__ == "__main__":
    unittest.main()
