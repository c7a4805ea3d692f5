"""Points 67 to 69: logs, and the lasts that explain them."""

import itertools
import random
import unittest

from waitworks.errors import InvalidArrivals, InvalidLog, NoPlace
from waitworks.blames import blame, blame_holds, spans_clash
from waitworks.flats import flat
from waitworks.houses import House, Module
from waitworks.logs import explained, explains, log_of, sure, told_back
from waitworks.rows import Row

from models import ANY_VALUES, HOUSE, busy_house, error_of, some_arrivals, some_house, walk

LOG = (("cut", (0, 4, 8)), ("done", (5, 9, 13)), ("fold", (3, 7, 11)), ("order", (0, 1, 2)))


def logged_house(rng, lasts=3):
    """A small house by chance, and a log of it: of a run, or with something otherwise."""
    if rng.random() < 0.3:
        house = some_house(rng, lasts=lasts, links=4, stations=2)
    else:
        house = busy_house(rng, inlets=rng.choice(["", "i", "ij"]), outlets="o", stations=rng.randint(1, 2), more=rng.randint(0, 2), lasts=lasts, loose=0.3)
    many = rng.randint(1, 5)
    log = [list(pair) for pair in log_of(house, "m", some_arrivals(rng, house["m"], high=6, more=2), many)]
    if log and rng.random() < 0.6:
        for _ in range(rng.randint(1, 2)):
            pair = rng.choice(log)
            times = list(pair[1])
            times[rng.randrange(many)] += rng.choice([-2, -1, 1, 1, 2])
            pair[1] = tuple([max(0, time) for time in itertools.accumulate(times, max)])
    return house, tuple([tuple(pair) for pair in log])


def explains_by_hand(house, log, lasts):
    """Whether a walk with these lasts goes as the log tells."""
    logged = dict(log)
    places, links = flat(house, "m")
    times = {place: [] for place in places}
    for n in range(len(log[0][1]) if log else 0):
        for place in places:
            arrived = logged[place][n] if place in house["m"].inlets else 0
            times[place].append(max([arrived] + times[place][-1:]))
        for _ in places:
            for (first, then, marks, _), last in zip(links, lasts):
                if n >= marks:
                    times[then][n] = max(times[then][n], times[first][n - marks] + last)
    return times == {place: list(some) for place, some in log}


class LogTest(unittest.TestCase):
    def test_log_of(self):
        rng = random.Random(211)
        for _ in range(60):
            house = some_house(rng)
            arrivals = some_arrivals(rng, house["m"])
            many = rng.randint(1, 12)
            times = walk(house, "m", arrivals, many)
            log = log_of(house=house, name="m", arrivals=arrivals, many=many)
            self.assertEqual(log, tuple([(place, tuple(times[place])) for place in sorted(times)]))
        self.assertEqual(log_of(HOUSE, "shop", [Row((), (0,), 1)], 3), LOG)
        self.assertEqual(log_of(House([Module("m", [], [], [], [])]), "m", [], 3), ())
        for value in ANY_VALUES:
            if value != "shop":
                self.assertIs(error_of(self, NoPlace, log_of, HOUSE, value, None, 1).name, value)
            self.assertIn(error_of(self, InvalidArrivals, log_of, HOUSE, "shop", value, 1).at, (0,)) if value != [Row((), (0,))] else None

    def test_by_all_lasts(self):
        rng = random.Random(212)
        seen = {"explained": 0, "not": 0, "sure": 0, "unsure": 0, "none": 0, "below": 0, "one going": 0}
        while min(seen.values()) < 20:
            house, log = logged_house(rng)
            places, links = flat(house, "m")
            if len(links) > 5:
                continue
            times = dict(log)
            told = told_back(house=house, name="m", log=log)
            for (first, then, marks, _), least in zip(links, told):
                gaps = [times[then][n] - times[first][n - marks] for n in range(marks, len(times[then]))]
                self.assertEqual(least, min(gaps, default=None))
            seen["none"] += None in told
            seen["below"] += any([least is not None and least < 0 for least in told])
            most = [6 if least is None else max(0, least) + 1 for least in told]
            tried = itertools.product(*[range(number + 1) if number < 5 else (0, 1, number - 1, number) for number in most])
            good = []
            for lasts in tried:
                wanted = explains_by_hand(house, log, lasts)
                if wanted or rng.random() < 0.1:
                    self.assertIs(explains(house=house, name="m", log=log, lasts=lasts), wanted)
                if wanted:
                    good.append(lasts)
            self.assertIs(explained(house=house, name="m", log=log), len(good) > 0)
            seen["explained" if good else "not"] += 1
            seen["one going"] += bool(log) and len(log[0][1]) == 1
            if good:
                wanted = tuple([some[0] if len(set(some)) == 1 else None for some in zip(*good)])
                found = sure(house=house, name="m", log=log)
                self.assertEqual(found, wanted)
                seen["sure"] += any([one is not None for one in wanted])
                seen["unsure"] += None in wanted

    def test_what_was_run_is_explained(self):
        rng = random.Random(213)
        for _ in range(60):
            house = some_house(rng, lasts=9)
            log = log_of(house, "m", some_arrivals(rng, house["m"]), rng.randint(1, 12))
            links = flat(house, "m")[1]
            self.assertIs(explained(house, "m", log), True)
            self.assertIs(explains(house, "m", [(place, list(times)) for place, times in log], [link[3] for link in links]), True)
            self.assertTrue(all([told is None or told >= link[3] for told, link in zip(told_back(house, "m", log), links)]))
            self.assertTrue(all([told is None or told == link[3] for told, link in zip(sure(house, "m", log), links)]))
            # With what is told back in the place of its lasts all goes as the log tells.
            self.assertIsNone(blame(house, "m", log))

    def test_told(self):
        self.assertEqual((told_back(HOUSE, "shop", LOG), sure(HOUSE, "shop", LOG)), ((3, 1, 2, 0), (3, 1, 2, 0)))
        one = (("cut", (2,)), ("done", (5,)), ("fold", (5,)), ("order", (0,)))
        self.assertEqual((told_back(HOUSE, "shop", one), explained(HOUSE, "shop", one), sure(HOUSE, "shop", one)), ((3, None, 0, 2), True, (3, None, 0, 2)))
        # Nothing is late, so that nothing has to last.
        idle = (("cut", (0,)), ("done", (0,)), ("fold", (0,)), ("order", (0,)))
        self.assertEqual((told_back(HOUSE, "shop", idle), sure(HOUSE, "shop", idle)), ((0, None, 0, 0), (0, None, 0, 0)))
        late = (("cut", (9, 9)), ("done", (14, 14)), ("fold", (12, 12)), ("order", (0, 9)))
        self.assertEqual((told_back(HOUSE, "shop", late)), (3, -3, 2, 0))
        self.assertIs(explained(HOUSE, "shop", late), False)
        twin = House([Module("m", ["i"], [], ["s"], [("i", "s", 0, 1), ("i", "s", 0, 1)])])
        self.assertEqual(sure(twin, "m", [("i", [0, 3]), ("s", [4, 7])]), (None, None))
        self.assertEqual(explained(House([Module("m", [], [], [], [])]), "m", []), True)

    def test_wrong_logs(self):
        asks = [told_back, explained, sure, lambda house, name, log: explains(house, name, log, [0] * 4), blame,
                lambda house, name, log: blame_holds(house, name, log, None), lambda house, name, log: spans_clash(house, name, [(0, 9)] * 4, log)]
        for ask in asks:
            for value in ANY_VALUES:
                if value != "shop":
                    self.assertIs(error_of(self, NoPlace, ask, HOUSE, value, None).name, value)
                self.assertEqual(error_of(self, InvalidLog, ask, HOUSE, "shop", value).at, 0)
                for at in range(4):
                    self.assertEqual(error_of(self, InvalidLog, ask, HOUSE, "shop", LOG[:at] + (value,) + LOG[at + 1:]).at, at)
                    if value != (1, 2, 3):
                        wrong = 1 if at == 0 and value in ([0], (0,), (1, 2), [1, 2]) else at
                        self.assertEqual(error_of(self, InvalidLog, ask, HOUSE, "shop", LOG[:at] + ((LOG[at][0], value),) + LOG[at + 1:]).at, wrong)
                    if value != LOG[at][0]:
                        self.assertEqual(error_of(self, InvalidLog, ask, HOUSE, "shop", LOG[:at] + ((value, LOG[at][1]),) + LOG[at + 1:]).at, at)
                self.assertEqual(error_of(self, InvalidLog, ask, HOUSE, "shop", LOG + (value,)).at, 4)
            for some, at in ((LOG[:3], 3), (LOG[1:], 0), (LOG[:2] + LOG[3:], 2), (LOG[:1] + LOG, 1), ((), 0), (LOG[:3] + (("order", (0, 1)),), 3), (LOG[:3] + (("order", (0, 1, 2, 3)),), 3),
                             ((("cut", (0, 4)),) + LOG[1:], 1), (LOG[:1] + (("done", ()),) + LOG[2:], 1), (LOG[:1] + (("done", (5, 4, 9)),) + LOG[2:], 1), (LOG[:3] + (("order", (False, 1, 2)),), 3),
                             (LOG[:3] + (("order", (-1, 1, 2)),), 3), (LOG[:3] + (("order", (0, 1, None)),), 3), (LOG[:3] + (["order", (0, 1, 2)],), 3), (LOG[:3] + (("order", (0, 1, 2), 0),), 3),
                             (tuple([(place, ()) for place, _ in LOG]), 0), (LOG[:2] + (("x", (9,)), ("order", (1,))), 2)):
                self.assertEqual(error_of(self, InvalidLog, ask, HOUSE, "shop", some).at, at)
        bare = House([Module("m", [], [], [], [])])
        self.assertEqual(told_back(bare, "m", ()), ())
        self.assertEqual(error_of(self, InvalidLog, told_back, bare, "m", [("s", (0,))]).at, 0)


if __name__ == "__main__":
    unittest.main()
