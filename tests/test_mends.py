"""Points 64 to 66: mends and flows."""

import itertools
import random
import unittest

from waitworks.errors import NoPlace
from waitworks.flats import flat, written_out
from waitworks.flows import flow, flow_holds
from waitworks.houses import House, Module
from waitworks.mends import best_beat, cut_spans, hindrance, mend, mend_cost, mend_costs, mend_holds, mended
from waitworks.timetables import least_round, timetable, too_slow

from models import ANY_VALUES, HOUSE, busy_house, error_of, rings_by_hand, some_house

PRICES = [2, 1, None, None]


def some_case(rng, lasts=3, more=3):
    """A small house by chance, with prices."""
    if rng.random() < 0.2:
        house = some_house(rng, lasts=lasts, stations=3, links=5)
    else:
        house = busy_house(rng, inlets=rng.choice(["", "i"]), outlets=rng.choice(["", "o"]), stations=rng.randint(1, 3), lasts=lasts, more=rng.randint(0, more))
    places, links = flat(house, "m")
    return house, places, links, [rng.choice([None, 1, 1, 2, 3, 7]) for _ in links]


def all_mends(links, beat, prices):
    """All mends, each with what it costs."""
    rings = rings_by_hand(list(dict.fromkeys([(*link, at) for at, link in enumerate(links)])))
    most = [0 if price is None else link[3] for link, price in zip(links, prices)]
    on_rings = {link[4] for ring in rings for link in ring}
    for cuts in itertools.product(*[range(many + 1) for many in most]):
        if all([sum([link[3] - cuts[link[4]] - beat * link[2] for link in ring]) <= 0 for ring in rings]):
            cost = sum([cut * price for cut, price in zip(cuts, prices) if cut])
            yield cost, cuts, on_rings


def worth(links, beat, prices, some):
    return sum([link[3] * (much if price is None else min(much, price)) - beat * link[2] * much for link, price, much in zip(links, prices, some)])


def balanced(places, links, some):
    return all([sum([much for link, much in zip(links, some) if link[1] == place]) == sum([much for link, much in zip(links, some) if link[0] == place])
                for place in places])


class MendTest(unittest.TestCase):
    def test_by_hand(self):
        rng = random.Random(201)
        seen = {"none": 0, "free": 0, "costs": 0, "several": 0}
        while min(seen.values()) < 25:
            house, places, links, prices = some_case(rng)
            if 4 ** len([price for price in prices if price]) > 5000:
                continue
            beat = rng.choice([0, 0, 1, 1, 2, 3])
            mends = list(all_mends(links, beat, prices))
            cost, found = mend_cost(house=house, name="m", beat=beat, prices=prices), mend(house=house, name="m", beat=beat, prices=tuple(prices))
            spans, some = cut_spans(house=house, name="m", beat=beat, prices=prices), flow(house=house, name="m", beat=beat, prices=prices)
            ring = hindrance(house=house, name="m", beat=beat, prices=prices)
            if not mends:
                seen["none"] += 1
                self.assertEqual((cost, found, spans, some), (None, None, None, None))
                self.check_hindrance(ring, links, beat, prices)
                self.assertIs(flow_holds(house=house, name="m", beat=beat, prices=prices, value=(0,) * len(links)), False)
                continue
            self.assertIsNone(ring)
            least = min([one[0] for one in mends])
            self.assertEqual(cost, least)
            best = [one[1] for one in mends if one[0] == least]
            self.assertEqual(spans, tuple([(min(cuts), max(cuts)) for cuts in zip(*best)]))
            cuts = [dict(found).get(at, 0) for at in range(len(links))]
            self.assertIn(tuple(cuts), best)
            self.assertEqual(found, tuple([(at, cut) for at, cut in enumerate(cuts) if cut]))
            self.assertIs(mend_holds(house=house, name="m", beat=beat, prices=prices, value=found), True)
            self.assertTrue(balanced(places, links, some))
            self.assertEqual((len(some), min(some, default=0) >= 0, worth(links, beat, prices, some)), (len(links), True, least))
            self.assertIs(flow_holds(house, "m", beat, prices, some), True)
            self.assertIs(cost == 0, timetable(house, "m", beat) is not None)
            seen["free" if cost == 0 else "costs"] += 1
            seen["several"] += len(best) > 1
            done = mended(house=house, name="m", cuts=list(found))
            self.assertIsNone(too_slow(done, "m", beat))

    def check_hindrance(self, ring, links, beat, prices):
        self.assertIsInstance(ring, tuple)
        for link, behind in zip(ring, ring[1:] + ring[:1]):
            self.assertIn(link, links)
            self.assertEqual(link[1], behind[0])
        # Of equal links one without a price counts.
        fixed = {link for link, price in zip(links, prices) if price is None}
        self.assertGreater(sum([(link[3] if link in fixed else 0) - beat * link[2] for link in ring]), 0)

    def test_greater_ones(self):
        rng = random.Random(202)
        seen = 0
        for _ in range(90):
            house, places, links, prices = some_case(rng, lasts=rng.choice([9, 99, 9999]), more=8)
            prices = [price and rng.choice([price, rng.randint(1, 10 ** 4)]) for price in prices]
            beat = rng.choice([0, 1, 9, 99, 999])
            cost = mend_cost(house, "m", beat, prices)
            if cost is None:
                self.check_hindrance(hindrance(house, "m", beat, prices), links, beat, prices)
                continue
            # A mend and a flow of the same worth: neither can be better.
            found, some = mend(house, "m", beat, prices), flow(house, "m", beat, prices)
            self.assertIs(mend_holds(house, "m", beat, prices, found), True)
            self.assertEqual(sum([prices[at] * cut for at, cut in found]), cost)
            self.assertTrue(balanced(places, links, some))
            self.assertEqual(worth(links, beat, prices, some), cost)
            spans = cut_spans(house, "m", beat, prices)
            self.assertTrue(all([low <= dict(found).get(at, 0) <= high for at, (low, high) in enumerate(spans)]))
            seen += cost > 0
        self.assertGreater(seen, 20)

    def test_holds(self):
        rng = random.Random(203)
        seen = {True: 0, False: 0}
        for _ in range(300):
            house, places, links, prices = some_case(rng)
            beat = rng.randint(0, 2)
            rings = rings_by_hand([(*link, at) for at, link in enumerate(links)])
            cuts = [rng.randint(0, link[3]) if price and rng.random() < 0.8 else 0 for link, price in zip(links, prices)]
            value = tuple([(at, cut) for at, cut in enumerate(cuts) if cut])
            wanted = all([sum([link[3] - cuts[link[4]] - beat * link[2] for link in ring]) <= 0 for ring in rings])
            self.assertIs(mend_holds(house, "m", beat, prices, value), wanted)
            seen[wanted] += 1
        self.assertGreater(min(seen.values()), 50)

    def test_any_values(self):
        self.assertIs(mend_holds(HOUSE, "shop", 2, PRICES, ((0, 1), (1, 1))), True)
        self.assertIs(mend_holds(HOUSE, "shop", 2, PRICES, ((0, 3), (1, 1))), True)
        for value in (((0, 1),), ((1, 1), (0, 1)), ((0, 1), (0, 1)), ((0, 1), (1, 1), (1, 1)), ((0, 4),), ((0, 3), (1, 2)), ((0, 2), (1, 0)), ((0, 2), (2, 1)),
                      ((0, 2), (4, 1)), ((-4, 2),), ((False, 2),), ((0, True), (1, 1)), ((0, 1), (True, 1)), [(0, 1), (1, 1)], ([0, 1], [1, 1]), ((0, 1, 0), (1, 1, 0)),
                      ((0, -1), (1, 3))):
            self.assertIs(mend_holds(HOUSE, "shop", 2, PRICES, value), False, value)
        self.assertIs(mend_holds(HOUSE, "shop", 4, PRICES, ()), True)
        self.assertIs(mend_holds(HOUSE, "shop", 3, PRICES, ()), False)
        for value in ANY_VALUES:
            self.assertIs(mend_holds(HOUSE, "shop", 3, PRICES, value), False)
            self.assertIs(mend_holds(HOUSE, "shop", 3, PRICES, (value,)), False)
            self.assertIs(mend_holds(HOUSE, "shop", 3, PRICES, ((1, value),)), value == 1 and value is not True)
            self.assertIs(mend_holds(HOUSE, "shop", 3, PRICES, ((value, 1),)), value in (0, 1) and not isinstance(value, bool))

    def test_mended(self):
        house = mended(HOUSE, "two", [(0, 1), (3, 2)])
        self.assertEqual((len(house), house.names), (1, ("two",)))
        whole, names = written_out(HOUSE, "two", "two")
        cut = list(flat(HOUSE, "two")[1])
        cut[0], cut[3] = (*cut[0][:3], cut[0][3] - 1), (*cut[3][:3], cut[3][3] - 2)
        names = dict(names)
        self.assertEqual(house["two"].links, tuple(sorted([(names[link[0]], names[link[1]], *link[2:]) for link in cut])))
        self.assertEqual((house["two"].inlets, house["two"].stations), (whole.inlets, whole.stations))
        self.assertEqual(mended(HOUSE, "shop", ()), House([written_out(HOUSE, "shop", "shop")[0]]))
        # Shorter links can stand at another place.
        module = Module("m", [], [], ["s"], [("s", "s", 1, 2), ("s", "s", 1, 3)])
        self.assertEqual(mended(House([module]), "m", [(1, 3)])["m"].links, (("a", "a", 1, 0), ("a", "a", 1, 2)))

    def test_errors(self):
        for ask, given in ((mend, (3, PRICES)), (mend_cost, (3, PRICES)), (flow, (3, PRICES)), (hindrance, (3, PRICES)), (cut_spans, (3, PRICES)),
                           (mend_costs, (PRICES,)), (best_beat, (PRICES, 0)), (mend_holds, (3, PRICES, ())), (flow_holds, (3, PRICES, ())), (mended, ((),))):
            for value in ANY_VALUES:
                if value != "shop":
                    self.assertIs(error_of(self, NoPlace, ask, HOUSE, value, *given).name, value)


class CostsTest(unittest.TestCase):
    def test_beat_by_beat(self):
        rng = random.Random(204)
        seen = {"long": 0, "none": 0, "kinks": 0}
        while min(seen.values()) < 15:
            house, places, links, prices = some_case(rng, lasts=rng.choice([3, 9, 20]), more=6)
            found = mend_costs(house=house, name="m", prices=prices)
            wanted = []
            while 0 not in wanted:
                wanted.append(mend_cost(house, "m", len(wanted), prices))
            self.assertEqual(found, tuple(wanted))
            # The first beat that costs nothing is the least one of all rings.
            top, bottom = least_round(house, "m")
            self.assertEqual(len(found) - 1, -(-top // bottom))
            told = [cost for cost in found if cost is not None]
            self.assertEqual(found[len(found) - len(told):], tuple(told))
            steps = [one - other for one, other in zip(told, told[1:])]
            self.assertTrue(all([step > 0 for step in steps]) and steps == sorted(steps, reverse=True))
            seen["long"] += len(told) > 5
            seen["none"] += None in found
            seen["kinks"] += len(set(steps)) > 2
            for money in (0, 1, told[0], max(0, told[0] - 1), rng.randint(0, told[0])):
                beat = best_beat(house=house, name="m", prices=prices, money=money)
                self.assertEqual(beat, min([at for at, cost in enumerate(found) if cost is not None and cost <= money]))

    def test_edges(self):
        bare = House([Module("m", ["i"], ["o"], [], [("i", "o", 0, 9)])])
        self.assertEqual((mend_costs(bare, "m", [1]), best_beat(bare, "m", [None], 0), cut_spans(bare, "m", 0, [1])), ((0,), 0, ((0, 0),)))
        self.assertEqual((mend(bare, "m", 0, [1]), flow(bare, "m", 0, [1]), mend_cost(bare, "m", 0, [None])), ((), (0,), 0))
        empty = House([Module("m", [], [], [], [])])
        self.assertEqual((mend(empty, "m", 0, []), flow(empty, "m", 0, ()), mend_costs(empty, "m", ()), cut_spans(empty, "m", 3, [])), ((), (), (0,), ()))
        ring = House([Module("m", [], [], ["s"], [("s", "s", 2, 9999)])])
        costs = mend_costs(ring, "m", [10 ** 4])
        self.assertEqual((len(costs), costs[0], costs[4999], costs[5000]), (5001, 9999 * 10 ** 4, 10 ** 4, 0))
        self.assertEqual(mend_costs(ring, "m", [None]), (None,) * 5000 + (0,))
        self.assertEqual((best_beat(ring, "m", [None], 10 ** 9), best_beat(ring, "m", [3], 29), best_beat(ring, "m", [3], 3 * 9999)), (5000, 4995, 0))

    def test_told(self):
        self.assertEqual(mend(HOUSE, "shop", 3, PRICES), ((1, 1),))
        self.assertEqual((mend_costs(HOUSE, "shop", PRICES), best_beat(HOUSE, "shop", PRICES, 4)), ((7, 5, 3, 1, 0), 2))
        self.assertEqual(cut_spans(HOUSE, "shop", 3, [1, 1, None, None]), ((0, 1), (0, 1), (0, 0), (0, 0)))
        self.assertEqual(mend_costs(HOUSE, "shop", [None, 1, None, None]), (None, None, None, 1, 0))
        self.assertEqual(sorted(hindrance(HOUSE, "shop", 2, [None, 1, None, None])), [("cut", "fold", 0, 3), ("fold", "cut", 1, 1)])


class FlowTest(unittest.TestCase):
    def test_with_something_otherwise(self):
        rng = random.Random(205)
        seen = {True: 0, False: 0, "unbalanced": 0}
        while min(seen.values()) < 40:
            house, places, links, prices = some_case(rng)
            beat = rng.randint(0, 2)
            some = flow(house, "m", beat, prices)
            if some is None or not links:
                continue
            cost = mend_cost(house, "m", beat, prices)
            other = list(some)
            rings = rings_by_hand([(*link, at) for at, link in enumerate(links)])
            if rings and rng.random() < 0.8:
                sign = rng.choice([1, 1, -1, 3])
                for link in rng.choice(rings):
                    other[link[4]] += sign
            else:
                other[rng.randrange(len(other))] += 1
            good = min(other) >= 0 and balanced(places, links, other)
            wanted = good and worth(links, beat, prices, other) == cost
            self.assertIs(flow_holds(house, "m", beat, prices, tuple(other)), wanted)
            seen["unbalanced" if not good else wanted] += 1

    def test_any_values(self):
        self.assertIs(flow_holds(HOUSE, "shop", 2, PRICES, (2, 2, 0, 0)), True)
        self.assertIs(flow_holds(HOUSE, "shop", 3, PRICES, (1, 1, 0, 0)), True)
        for value in ([2, 2, 0, 0], (2, 2, 0), (2, 2, 0, 0, 0), (2, 1, 0, 0), (-2, -2, 0, 0), (2, 2, 0, False), (2, 2, None, 0), (1, 1, 0, 0), (3, 3, 0, 0), (0, 0, 0, 0)):
            self.assertIs(flow_holds(HOUSE, "shop", 2, PRICES, value), False, value)
        self.assertIs(flow_holds(HOUSE, "shop", 3, PRICES, (True, True, 0, 0)), False)
        for value in ANY_VALUES:
            self.assertIs(flow_holds(HOUSE, "shop", 2, PRICES, value), False)
            self.assertIs(flow_holds(HOUSE, "shop", 2, PRICES, (2, 2, 0, value)), value == 0 and value is not False)


if __name__ == "__main__":
    unittest.main()
