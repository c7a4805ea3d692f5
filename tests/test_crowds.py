"""Point 54: how many goings are on links, under way and waiting."""

import random
import unittest

from waitworks.crowds import counts_at, holds_up, most_on_links, on_link, under_way, waiting
from waitworks.errors import InvalidArrivals, NoPlace
from waitworks.flats import flat
from waitworks.heaps import Heap
from waitworks.houses import House, Module
from waitworks.rows import Row, empty, unit
from waitworks.runs import run

from models import ANY_VALUES, HOUSE, busy_house, error_of, flat_by_hand, rings_by_hand, some_arrivals, some_house, walk

SLOW = [Row([], [0], 5)]


class CrowdTest(unittest.TestCase):
    def test_by_hand(self):
        rng = random.Random(131)
        seen = {"heap": 0, "none": 0, "unlike": 0, "most": 0}
        for round_ in range(80):
            house = some_house(rng, lasts=5) if round_ % 3 == 0 else busy_house(rng, lasts=4, inlets="i")
            arrivals = some_arrivals(rng, house["m"], more=9)
            rows = dict(run(house, "m", arrivals))
            times = walk(house, "m", arrivals, 90)
            till = min([some[-1] for some in times.values()], default=0)
            moments = [time for time in range(-3, 40) if time < till]
            by = lambda place, time: len([one for one in times[place] if one <= time])
            most = most_on_links(house=house, name="m", arrivals=arrivals)
            links = flat_by_hand(house, "m")[1]
            self.assertEqual(len(most), len(links))
            for at, (first, then, marks, lasts) in enumerate(flat(house, "m")[1]):
                heaps = [ask(house=house, name="m", arrivals=arrivals, at=at) for ask in (on_link, under_way, waiting)]
                if rows[first].rate[0] == 0 or rows[then].rate[0] == 0:
                    seen["none"] += 1
                    self.assertIsNone(most[at])
                    self.assertEqual(heaps[0], None)
                    self.assertEqual(heaps[2], None)
                    self.assertIs(heaps[1] is None, rows[first].rate[0] == 0)
                    continue
                seen["heap"] += 1
                for heap in heaps:
                    self.assertIsInstance(heap, Heap)
                for time in moments:
                    wanted = marks + by(first, time) - by(then, time)
                    way = by(first, time) - by(first, time - lasts)
                    self.assertEqual([heap.by(time) for heap in heaps], [wanted, way, wanted - way])
                self.assertGreaterEqual(heaps[2].fewest()[0], 0)
                if heaps[0].most() is None:
                    seen["unlike"] += 1
                    self.assertIsNone(most[at])
                else:
                    seen["most"] += 1
                    self.assertEqual(most[at], heaps[0].most()[0])
        self.assertGreater(min(seen.values()), 20)

    def test_rings_keep_their_marks(self):
        rng = random.Random(132)
        for _ in range(30):
            house = busy_house(rng, stations=2, lasts=4)
            arrivals = some_arrivals(rng, house["m"])
            links = flat(house, "m")[1]
            for ring in rings_by_hand(links)[:6]:
                heaps = [on_link(house, "m", arrivals, links.index(link)) for link in ring]
                if None not in heaps:
                    for time in (-1, 0, 3, 17, 10 ** 15):
                        self.assertEqual(sum([heap.by(time) for heap in heaps]), sum([link[2] for link in ring]))

    def test_told(self):
        self.assertEqual(on_link(HOUSE, "shop", SLOW, 1).again, ((0, 0), (3, 1)))
        self.assertEqual(most_on_links(HOUSE, "shop", SLOW), (1, 1, 1, 0))
        self.assertEqual(counts_at(HOUSE, "shop", SLOW, 5)[:2], (("cut", 2), ("done", 1)))
        self.assertEqual(most_on_links(HOUSE, "shop", [unit()]), (1, 1, 1, None))
        self.assertEqual(most_on_links(HOUSE, "shop", [Row([], [0], 3)]), (1, 1, 1, None))
        # Links with no lasts: nothing is ever under way on them.
        for heap in (under_way(HOUSE, "shop", SLOW, 3), waiting(HOUSE, "shop", SLOW, 3), on_link(HOUSE, "shop", SLOW, 3)):
            self.assertEqual((heap.under, heap.first, heap.again, heap.turn, heap.more), (0, (), (), 0, 0))
        # Marks wait at the end from the beginning.
        marked = House([Module("m", ["i"], ["o"], [], [("i", "o", 2, 9)])])
        self.assertEqual([waiting(marked, "m", SLOW, 0).by(time) for time in (-9, 0, 4, 5, 9, 14)], [2, 0, 0, 0, 0, 0])
        self.assertEqual(on_link(marked, "m", [Row([], [2], 5)], 0).by(-1), 2)
        self.assertEqual(under_way(marked, "m", SLOW, 0).most(), (2, 5))

    def test_counts_at(self):
        rng = random.Random(133)
        for _ in range(60):
            house = some_house(rng, lasts=5)
            arrivals = some_arrivals(rng, house["m"], more=rng.choice([0, 9]))
            for time in (-10 ** 15, -1, 0, rng.randint(1, 30), 10 ** 15):
                found = counts_at(house=house, name="m", arrivals=arrivals, time=time)
                self.assertEqual(found, tuple([(place, row.count(time)) for place, row in run(house, "m", arrivals)]))
        self.assertEqual(counts_at(House([Module("m", [], ["o"], [], [])]), "m", [], 0), (("o", None),))

    def test_errors(self):
        asks = (
            lambda *given: on_link(*given, 0), lambda *given: under_way(*given, 0), lambda *given: waiting(*given, 0), most_on_links,
            lambda *given: counts_at(*given, 0), lambda *given: holds_up(*given, None, 0),
        )
        for ask in asks:
            for bad in ANY_VALUES:
                if bad not in ("shop", "two"):
                    self.assertIs(error_of(self, NoPlace, ask, HOUSE, bad, None).name, bad)
            for bad in (None, [], [unit(), unit()], [None], [empty()], [Row([-1], [0])], "a", unit()):
                self.assertEqual(error_of(self, InvalidArrivals, ask, HOUSE, "shop", bad).at, 0)
        for bad in ANY_VALUES:
            if bad != "order":
                self.assertIs(error_of(self, NoPlace, holds_up, HOUSE, "shop", SLOW, bad, 0).name, bad)


class HoldsUpTest(unittest.TestCase):
    def test_by_hand(self):
        rng = random.Random(134)
        seen = {"endless": 0, "some": 0, "inlet": 0}
        for round_ in range(120):
            house = some_house(rng, lasts=5) if round_ % 2 else busy_house(rng, lasts=4)
            arrivals = some_arrivals(rng, house["m"], more=9)
            rows = dict(run(house, "m", arrivals))
            for place in rows:
                time = rng.choice([rng.randint(-2, 0), rng.randint(0, 30), 10 ** 15])
                found = holds_up(house=house, name="m", arrivals=arrivals, place=place, time=time)
                gone = rows[place].count(time)
                if gone is None:
                    seen["endless"] += 1
                    self.assertEqual(found, ())
                    continue
                wanted = []
                for at, (first, then, marks, lasts) in enumerate(flat(house, "m")[1]):
                    come = rows[first].count(time - lasts)
                    if then == place and come is not None and come + marks - gone == 0:
                        wanted.append(at)
                self.assertEqual(found, tuple(wanted))
                if place in house["m"].inlets:
                    seen["inlet"] += 1
                    self.assertEqual(found, ())
                elif time >= 0:
                    seen["some"] += 1
                    self.assertGreater(len(found), 0)
        self.assertGreater(min(seen.values()), 50)

    def test_told(self):
        self.assertEqual(holds_up(HOUSE, "shop", SLOW, "cut", 1), (1, 3))
        self.assertEqual(holds_up(HOUSE, "shop", [unit()], "cut", 1), (1,))
        self.assertEqual(holds_up(HOUSE, "shop", SLOW, "cut", 4), (3,))
        self.assertEqual(holds_up(HOUSE, "shop", SLOW, "order", 4), ())
        self.assertEqual(holds_up(HOUSE, "shop", [unit()], "order", 4), ())
        self.assertEqual(holds_up(HOUSE, "shop", SLOW, "cut", -1), (3,))


if __name__ == "__main__":
    unittest.main()
