"""Point 17: chains."""

import random
import unittest

from waitworks.errors import InvalidArrivals, NoPlace
from waitworks.houses import House, Module
from waitworks.reasons import chain, chain_holds
from waitworks.rows import Row, unit

from models import ANY_VALUES, HOUSE, error_of, flat_by_hand, some_arrivals, some_house, walk


class ChainTest(unittest.TestCase):
    def holds(self, house, name, arrivals, place, n, value):
        """Whether a tuple of triples is a chain, by its own words."""
        _, links = flat_by_hand(house, name)
        times = walk(house, name, arrivals, n + 1)
        for one, m, time in value:
            if one not in times or not 0 <= m <= n or times[one][m] != time:
                return False
        if not value or value[0] != (place, n, times[place][n]) or not (value[-1][2] == 0 or value[-1][0] in house[name].inlets):
            return False
        for (one, m, time), (other, k, start) in zip(value, value[1:]):
            ways = [link for link in links if link[:2] == (other, one) and link[2] == m - k and link[3] == time - start]
            if (other, k, start) != (one, m - 1, time) and not ways:
                return False
        return True

    def test_chains_that_are_made(self):
        rng = random.Random(4)
        for _ in range(120):
            house = some_house(rng, lasts=rng.choice([0, 1, 5]))
            arrivals = some_arrivals(rng, house["m"])
            for place in flat_by_hand(house, "m")[0]:
                n = rng.choice([0, 1, rng.randint(2, 60)])
                found = chain(house=house, name="m", arrivals=arrivals, place=place, n=n)
                self.assertIsInstance(found, tuple)
                for step in found:
                    self.assertIsInstance(step, tuple)
                self.assertTrue(self.holds(house, "m", arrivals, place, n, found))
                self.assertIs(chain_holds(house, "m", arrivals, place, n, found), True)

    def test_chains_with_something_otherwise(self):
        rng = random.Random(5)
        seen = {True: 0, False: 0}
        for _ in range(250):
            house = some_house(rng, lasts=rng.choice([0, 1, 3]))
            places = flat_by_hand(house, "m")[0]
            if not places:
                continue
            arrivals = some_arrivals(rng, house["m"], more=2)
            place, n = rng.choice(places), rng.randint(0, 12)
            found = chain(house, "m", arrivals, place, n)
            times = walk(house, "m", arrivals, n + 1)
            for _ in range(8):
                value, at = list(found), rng.randrange(len(found))
                kind = rng.randrange(5)
                if kind == 0:
                    del value[at]
                elif kind == 1:
                    value.insert(at, value[at])
                elif kind == 2:
                    one, m = rng.choice(places), rng.randint(0, n)
                    value.insert(at + 1, (one, m, times[one][m]))
                elif kind == 3:
                    one, m, time = value[at]
                    value[at] = (one, m + rng.choice([-1, 0, 1]), time + rng.choice([-1, 0, 0, 1]))
                else:
                    one, m, time = value[-1]
                    if m > 0:
                        value.append((one, m - 1, times[one][m - 1]))
                wanted = self.holds(house, "m", arrivals, place, n, value)
                self.assertIs(chain_holds(house, "m", arrivals, place, n, tuple(value)), wanted)
                seen[wanted] += 1
        self.assertGreater(min(seen.values()), 100)

    def test_told(self):
        some = (("done", 1, 9), ("fold", 1, 7), ("cut", 1, 4), ("fold", 0, 3), ("cut", 0, 0))
        self.assertIs(chain_holds(HOUSE, "shop", [unit()], "done", 1, some), True)
        self.assertIs(chain_holds(house=HOUSE, name="shop", arrivals=[unit()], place="done", n=1, value=some), True)
        self.assertIs(chain_holds(HOUSE, "shop", [unit()], "done", 1, some + (("order", 0, 0),)), True)
        for value in (some[:4], some[1:], some[:1], some[:2] + some[3:], some + some[-1:], (), list(some), some[:1] + some,
                      tuple([list(step) for step in some]), some[:4] + (("cut", 0, False),), some[:4] + (("cut", False, 0),),
                      some[:3] + (("fold", False, 3),) + some[4:], (("done", True, 9),) + some[1:], some[:4] + (("cut", 0, 0, 0),),
                      some[:4] + (("cut", 0),), some[:4] + (("x", 0, 0),), some[:4] + (("cut", -1, 0),)):
            self.assertIs(chain_holds(HOUSE, "shop", [unit()], "done", 1, value), False)
        for place, n in (("done", 0), ("done", 2), ("fold", 1)):
            self.assertIs(chain_holds(HOUSE, "shop", [unit()], place, n, some), False)

    def test_times_are_those_of_the_run(self):
        # By the link alone b would be at 5, but it waits for nothing and is at 0.
        house = House([Module("m", [], [], ["a", "b", "c"], [("b", "a", 0, 2), ("c", "a", 0, 7)])])
        self.assertIs(chain_holds(house, "m", [], "a", 0, (("a", 0, 7), ("c", 0, 0))), True)
        self.assertIs(chain_holds(house, "m", [], "a", 0, (("a", 0, 7), ("b", 0, 5))), False)
        self.assertIs(chain_holds(house, "m", [], "a", 0, (("a", 0, 7), ("b", 0, 0))), False)
        self.assertIs(chain_holds(house, "m", [], "a", 0, (("a", 0, 2), ("b", 0, 0))), False)

    def test_inlets(self):
        late = [Row([3, 3], [3], 9)]
        inlet = (("cut", 0, 3), ("order", 0, 3))
        self.assertIs(chain_holds(HOUSE, "shop", late, "cut", 0, inlet), True)
        self.assertIs(chain_holds(HOUSE, "shop", late, "cut", 0, inlet[:1]), False)
        self.assertIs(chain_holds(HOUSE, "shop", late, "order", 1, (("order", 1, 3),)), True)
        self.assertIs(chain_holds(HOUSE, "shop", late, "order", 2, (("order", 2, 3), ("order", 1, 3), ("order", 0, 3))), True)
        self.assertIs(chain_holds(HOUSE, "shop", late, "order", 3, (("order", 3, 12), ("order", 2, 3))), False)
        # An inlet of a called module is a place like others.
        self.assertIs(chain_holds(HOUSE, "two", late, "a.order", 0, (("a.order", 0, 3),)), False)
        self.assertIs(chain_holds(HOUSE, "two", late, "a.order", 0, (("a.order", 0, 3), ("in", 0, 3))), True)

    def test_the_going_ahead(self):
        house = House([Module("m", [], [], ["s", "t"], [("s", "t", 0, 4), ("s", "s", 2, 3)])])
        value = (("t", 1, 4), ("t", 0, 4), ("s", 0, 0))
        self.assertIs(chain_holds(house, "m", [], "t", 1, value), True)
        self.assertIs(chain_holds(house, "m", [], "t", 1, (("t", 1, 4), ("s", 1, 0), ("s", 0, 0))), True)
        self.assertIs(chain_holds(house, "m", [], "t", 1, (("t", 1, 4), ("s", 0, 0))), False)

    def test_any_values(self):
        some = (("done", 1, 9), ("fold", 1, 7), ("cut", 1, 4), ("fold", 0, 3), ("cut", 0, 0))
        for value in ANY_VALUES:
            self.assertIs(chain_holds(HOUSE, "shop", [unit()], "done", 1, value), False)
            for at in range(5):
                other = some[:at] + (value,) + some[at + 1:]
                self.assertIs(chain_holds(HOUSE, "shop", [unit()], "done", 1, other), value == some[at])
                for k in range(3):
                    step = some[at][:k] + (value,) + some[at][k + 1:]
                    if step != some[at] or isinstance(value, bool):
                        self.assertIs(chain_holds(HOUSE, "shop", [unit()], "done", 1, some[:at] + (step,) + some[at + 1:]), False)

    def test_order_of_errors(self):
        for value in (*ANY_VALUES, (("done", 1, 9),)):
            for bad in ANY_VALUES:
                if bad not in ("shop", "two"):
                    self.assertIs(error_of(self, NoPlace, chain_holds, HOUSE, bad, None, None, 1, value).name, bad)
                if bad != [Row((), (0,))]:
                    self.assertEqual(error_of(self, InvalidArrivals, chain_holds, HOUSE, "shop", bad, None, 1, value).at, 0)
                if bad != "order":
                    self.assertIs(error_of(self, NoPlace, chain_holds, HOUSE, "shop", [unit()], bad, 1, value).name, bad)

    def test_great_numbers(self):
        for n in (60, 200, 201, 1000):
            found = chain(HOUSE, "two", [Row([], [0], 3)], "out", n)
            self.assertIs(chain_holds(HOUSE, "two", [Row([], [0], 3)], "out", n, found), True)
            self.assertIs(chain_holds(HOUSE, "two", [Row([], [0], 2)], "out", n, found), found[-1][2] == 0)
            self.assertIs(chain_holds(HOUSE, "two", [Row([9], [9], 9)], "out", n, found), False)
            self.assertIs(chain_holds(HOUSE, "two", [Row([], [0], 3)], "out", n - 1, found), False)

    def test_the_going_itself_is_no_later(self):
        # All that is told of the others is right, but what it waits for is something else.
        house = House([Module("m", ["i"], [], ["s", "t"], [("i", "s", 0, 2), ("t", "s", 0, 3)])])
        self.assertIs(chain_holds(house, "m", [unit()], "s", 1, (("s", 1, 2), ("i", 1, 0))), False)
        self.assertIs(chain_holds(house, "m", [unit()], "s", 1, (("s", 1, 3), ("t", 1, 0))), True)
        self.assertIs(chain_holds(house, "m", [Row([1], [1])], "s", 1, (("s", 1, 3), ("i", 1, 1))), True)
        self.assertIs(chain_holds(house, "m", [Row([1], [2])], "s", 1, (("s", 1, 3), ("i", 1, 1))), False)
        self.assertIs(chain_holds(house, "m", [Row([1], [2])], "s", 1, (("s", 1, 4), ("i", 1, 2))), True)
        self.assertIs(chain_holds(house, "m", [Row([1], [2])], "s", 1, (("s", 1, 3), ("s", 0, 3), ("i", 0, 1))), False)


if __name__ == "__main__":
    unittest.main()
