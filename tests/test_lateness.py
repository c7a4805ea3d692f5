"""Points 60 to 62: what late goings make late by a timetable."""

import random
import unittest

from waitworks.errors import NoPlace
from waitworks.flats import flat
from waitworks.houses import House, Module
from waitworks.lateness import (
    gone_after, late_goings, late_holds, late_way, most_late, spares, stays, unharmed, unspared,
)
from waitworks.timetables import least_round, timetable

from models import ANY_VALUES, HOUSE, busy_house, error_of, some_house

TABLE = timetable(HOUSE, "shop", 5)
TIGHT = timetable(HOUSE, "shop", 4)


def some_table(rng):
    """A house by chance, a beat, and a kept timetable."""
    while True:
        house = some_house(rng, lasts=4) if rng.random() < 0.3 else busy_house(rng, inlets="i", outlets="o", lasts=4, loose=0.2)
        places = flat(house, "m")[0]
        top, bottom = least_round(house, "m")
        if places:
            beat = -(-top // bottom) + rng.choice([0, 0, 1, 3])
            wants = [(rng.choice(places), rng.randint(0, 12)) for _ in range(rng.randint(0, 2))]
            return house, beat, timetable(house, "m", beat, wants)


def late_by_hand(house, beat, table, lates, end):
    """How late the goings with numbers below the end are, one after another."""
    places, links = flat(house, "m")
    times, late = dict(table), {}
    for n in range(end):
        for place in places:
            found = [d for one, m, d in lates if (one, m) == (place, n)] + [late.get((place, n - 1), 0) - beat]
            late[place, n] = max([0, *found])
        for _ in places:
            for first, then, marks, lasts in links:
                if n >= marks:
                    spare = times[then] + beat * marks - times[first] - lasts
                    late[then, n] = max(late[then, n], late[first, n - marks] - spare)
    return {key: how for key, how in late.items() if how > 0}


class LateTest(unittest.TestCase):
    def test_spares(self):
        rng = random.Random(151)
        for _ in range(60):
            house, beat, table = some_table(rng)
            times = dict(table)
            wanted = tuple([times[then] + beat * marks - times[first] - lasts for first, then, marks, lasts in flat(house, "m")[1]])
            self.assertEqual(spares(house=house, name="m", beat=beat, table=table), wanted)
            self.assertEqual(unspared(house=house, name="m", beat=beat, table=table), tuple([at for at, spare in enumerate(wanted) if spare == 0]))
        self.assertEqual((spares(HOUSE, "shop", 5, TABLE), unspared(HOUSE, "shop", 5, TABLE)), ((0, 1, 0, 0), (0, 2, 3)))

    def test_late_goings(self):
        rng = random.Random(152)
        seen = {"endless": 0, "none": 0, "some": 0, "several": 0}
        for _ in range(300):
            house, beat, table = some_table(rng)
            places = flat(house, "m")[0]
            lates = [(rng.choice(places), rng.randint(0, 4), rng.choice([0, 1, 2, 9])) for _ in range(rng.randint(0, 3))]
            found = late_goings(house=house, name="m", beat=beat, table=table, lates=lates)
            late = late_by_hand(house, beat, table, lates, 70)
            if found is None:
                seen["endless"] += 1
                self.assertTrue(any([n >= 60 for _, n in late]))
                continue
            seen["several" if len(lates) > 1 and found else "some" if found else "none"] += 1
            self.assertEqual(found, tuple(sorted([(place, n, how) for (place, n), how in late.items()])))
        self.assertGreater(min(seen.values()), 20)

    def test_most_late_and_gone_after(self):
        rng = random.Random(153)
        seen = {"endless": 0, "at once": 0, "some": 0, "unharmed": 0, "none": 0}
        for _ in range(250):
            house, beat, table = some_table(rng)
            places = flat(house, "m")[0]
            place, d = rng.choice(places), rng.randint(1, 8)
            late = late_by_hand(house, beat, table, [(place, 0, d)], 90)
            most = {}
            for (other, _), how in late.items():
                most[other] = max(how, most.get(other, 0))
            found = most_late(house=house, name="m", beat=beat, table=table, place=place, d=d)
            self.assertEqual(found, tuple(sorted(most.items())))
            self.assertIs(late_holds(house=house, name="m", beat=beat, table=table, place=place, d=d, value=found), True)
            far = gone_after(house=house, name="m", beat=beat, table=table, place=place, d=d)
            if far is None:
                seen["endless"] += 1
                self.assertTrue(any([n >= 70 for _, n in late]))
            else:
                seen["some" if far else "at once"] += 1
                self.assertEqual(far, max([n for _, n in late]))
            for other in places:
                spare = unharmed(house=house, name="m", beat=beat, table=table, place=place, other=other)
                if spare is None:
                    seen["none"] += 1
                    self.assertEqual(dict(most_late(house, "m", beat, table, place, 10 ** 6)).get(other), None)
                else:
                    seen["unharmed"] += 1
                    self.assertNotIn(other, dict(most_late(house, "m", beat, table, place, spare)))
                    self.assertEqual(dict(most_late(house, "m", beat, table, place, spare + 1))[other], 1)
            self.check_ways(house, beat, table, place, d, most)
        self.assertGreater(min(seen.values()), 20)

    def check_ways(self, house, beat, table, place, d, most):
        places, links = flat(house, "m")
        told = dict(zip(links, spares(house, "m", beat, table)))
        for other in places:
            way = late_way(house=house, name="m", beat=beat, table=table, place=place, d=d, other=other)
            if other not in most:
                self.assertIsNone(way)
                continue
            self.assertIsInstance(way, tuple)
            self.assertEqual(len({link[0] for link in way}), len(way))
            here = place
            for link in way:
                self.assertIn(link, links)
                self.assertEqual(link[0], here)
                here = link[1]
            self.assertEqual(here, other)
            self.assertEqual(d - sum([told[link] for link in way]), most[other])
            self.assertTrue(other != place or way == ())

    def test_stays(self):
        rng = random.Random(154)
        seen = {True: 0, False: 0, "no beat": 0}
        for _ in range(150):
            house, beat, table = some_table(rng)
            places = flat(house, "m")[0]
            found = stays(house=house, name="m", beat=beat, table=table)
            wanted = tuple([place for place in places if late_goings(house, "m", beat, table, [(place, 0, 1)]) is None])
            self.assertEqual(found, wanted)
            for place in places:
                seen[place in found] += 1
            seen["no beat"] += beat == 0
        self.assertGreater(min(seen.values()), 5)

    def test_told(self):
        self.assertEqual((most_late(HOUSE, "shop", 5, TABLE, "cut", 2), gone_after(HOUSE, "shop", 5, TABLE, "cut", 2)), ((("cut", 2), ("done", 2), ("fold", 2)), 1))
        wanted = (("cut", 3, 2), ("cut", 4, 1), ("done", 3, 2), ("done", 4, 1), ("fold", 3, 2), ("fold", 4, 1))
        self.assertEqual(late_goings(HOUSE, "shop", 5, TABLE, [("cut", 3, 2)]), wanted)
        self.assertEqual((unharmed(HOUSE, "shop", 5, TABLE, "fold", "cut"), stays(HOUSE, "shop", 4, TIGHT)), (1, ("cut", "fold", "order")))
        self.assertEqual((unharmed(HOUSE, "shop", 5, TABLE, "done", "cut"), unharmed(HOUSE, "shop", 5, TABLE, "done", "done")), (None, 0))
        self.assertEqual((late_goings(HOUSE, "shop", 4, TIGHT, [("cut", 0, 1)]), gone_after(HOUSE, "shop", 4, TIGHT, "cut", 1)), (None, None))
        self.assertEqual((late_goings(HOUSE, "shop", 4, TIGHT, [("cut", 0, 0)]), late_goings(HOUSE, "shop", 4, TIGHT, [])), ((), ()))
        self.assertEqual(late_goings(HOUSE, "shop", 4, TIGHT, [("done", 60, 4)]), (("done", 60, 4),))
        self.assertEqual((late_way(HOUSE, "shop", 5, TABLE, "order", 2, "fold"), late_way(HOUSE, "shop", 5, TABLE, "fold", 1, "cut")),
                         ((("order", "cut", 0, 0), ("cut", "fold", 0, 3)), None))
        self.assertEqual((late_way(HOUSE, "shop", 5, TABLE, "cut", 2, "cut"), late_way(HOUSE, "shop", 5, TABLE, "done", 9, "cut")), ((), None))
        self.assertEqual(stays(HOUSE, "shop", 5, TABLE), ())

    def test_great_lateness(self):
        self.assertEqual(gone_after(HOUSE, "shop", 5, TABLE, "cut", 10 ** 6), 10 ** 6 - 1)
        self.assertEqual(gone_after(HOUSE, "shop", 999, timetable(HOUSE, "shop", 999), "done", 10 ** 6), 1001)
        self.assertEqual(most_late(HOUSE, "shop", 5, TABLE, "order", 10 ** 6)[1], ("done", 10 ** 6))

    def test_no_beat(self):
        # With a beat of 0 a place's own later goings stay as late.
        house = House([Module("m", ["i"], ["o"], ["s"], [("i", "s", 0, 2), ("s", "s", 1, 0)])])
        table = timetable(house, "m", 0)
        self.assertEqual(table, (("i", 0), ("o", 0), ("s", 2)))
        self.assertEqual(stays(house, "m", 0, table), ("i", "o", "s"))
        self.assertEqual((gone_after(house, "m", 0, table, "o", 1), late_goings(house, "m", 0, table, [("o", 2, 1)])), (None, None))
        self.assertEqual(late_goings(house, "m", 0, table, [("o", 2, 0)]), ())
        self.assertEqual(most_late(house, "m", 0, table, "i", 3), (("i", 3), ("s", 3)))

    def test_own_goings_ahead(self):
        # By marks and by its own goings it ends just so.
        house = House([Module("m", [], ["o"], ["s"], [("s", "s", 2, 3), ("s", "o", 1, 0)])])
        table = timetable(house, "m", 2)
        self.assertEqual(spares(house, "m", 2, table), (2, 1))
        found = late_goings(house, "m", 2, table, [("s", 1, 4)])
        late = late_by_hand(house, 2, table, [("s", 1, 4)], 40)
        self.assertEqual(found, tuple(sorted([(place, n, how) for (place, n), how in late.items()])))
        wanted = (("o", 2, 2), ("o", 4, 1), ("s", 1, 4), ("s", 2, 2), ("s", 3, 3), ("s", 4, 1), ("s", 5, 2), ("s", 7, 1))
        self.assertEqual(found, wanted)


class PaperTest(unittest.TestCase):
    def holds(self, house, beat, table, place, d, value):
        """Whether pairs of unlike places, ascending, are a late paper, by its words."""
        links = flat(house, "m")[1]
        late = dict(value)
        if late.get(place, 0) < d:
            return False
        for (first, then, _, _), spare in zip(links, spares(house, "m", beat, table)):
            if first in late and late[first] > spare and (then not in late or late[then] < late[first] - spare):
                return False
        return True

    def test_with_something_otherwise(self):
        rng = random.Random(155)
        seen = {True: 0, False: 0}
        for _ in range(250):
            house, beat, table = some_table(rng)
            places = flat(house, "m")[0]
            place, d = rng.choice(places), rng.randint(1, 6)
            most = dict(most_late(house, "m", beat, table, place, d))
            for _ in range(4):
                late = dict(most)
                other = rng.choice(places)
                kind = rng.randrange(4)
                if kind == 0:
                    late.pop(other, None)
                elif kind == 1:
                    late[other] = max(1, late.get(other, 0) + rng.choice([-1, 1, 2]))
                elif kind == 2:
                    late = {one: how + 3 for one, how in late.items()}
                value = tuple(sorted(late.items()))
                wanted = self.holds(house, beat, table, place, d, value)
                self.assertIs(late_holds(house, "m", beat, table, place, d, value), wanted)
                self.assertTrue(not wanted or all([late[one] >= how for one, how in most.items()]))
                seen[wanted] += 1
        self.assertGreater(min(seen.values()), 150)

    def test_any_values(self):
        good = (("cut", 2), ("done", 2), ("fold", 2))
        holds = lambda value: late_holds(HOUSE, "shop", 5, TABLE, "cut", 2, value)
        self.assertEqual((holds(good), holds((("cut", 3), ("done", 9), ("fold", 3))), holds((*good, ("order", 1)))), (True, True, True))
        for value in ((), good[:2], good[1:], good[::-1], list(good), (*good, good[-1]), (*good, ("x", 1)), (*good[:2], ["fold", 2]), (*good[:2], ("fold", 2, 2)),
                      (("cut", 1), *good[1:]), (*good, ("order", 0)), (*good, ("order", True)), (*good, ("order", 3)), (("cut", 2), ("cut", 3), *good[1:])):
            self.assertIs(holds(value), False)
        for value in ANY_VALUES:
            self.assertIs(holds(value), False)
            self.assertIs(holds((*good, value)), False)
            for at in range(3):
                self.assertIs(holds(good[:at] + ((good[at][0], value),) + good[at + 1:]), at == 1 and value == 10 ** 15)
                self.assertIs(holds(good[:at] + ((value, 2),) + good[at + 1:]), False)

    def test_errors(self):
        asks = (
            lambda name, *given: spares(HOUSE, name, 5, TABLE), lambda name, *given: unspared(HOUSE, name, 5, TABLE), lambda name, *given: stays(HOUSE, name, 5, TABLE),
            lambda name, *given: late_goings(HOUSE, name, 5, TABLE, [("cut", 0, 0), (given[0], 0, 1), ("x", 0, 1)]),
            lambda name, *given: most_late(HOUSE, name, 5, TABLE, given[0], 1), lambda name, *given: gone_after(HOUSE, name, 5, TABLE, given[0], 1),
            lambda name, *given: unharmed(HOUSE, name, 5, TABLE, given[0], "x"), lambda name, *given: unharmed(HOUSE, name, 5, TABLE, "cut", given[0]),
            lambda name, *given: late_way(HOUSE, name, 5, TABLE, given[0], 1, "x"), lambda name, *given: late_way(HOUSE, name, 5, TABLE, "cut", 1, given[0]),
            lambda name, *given: late_holds(HOUSE, name, 5, TABLE, given[0], 1, None),
        )
        for bad in ANY_VALUES:
            for at, ask in enumerate(asks):
                if bad not in ("shop", "two"):
                    self.assertIs(error_of(self, NoPlace, ask, bad, "x").name, bad)
                if at > 2 and bad != "order":
                    self.assertIs(error_of(self, NoPlace, ask, "shop", bad).name, bad)


if __name__ == "__main__":
    unittest.main()
