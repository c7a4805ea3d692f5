"""Points 70 and 71: blames, and spans."""

import random
import unittest

from waitworks.blames import blame, blame_holds, spans_clash
from waitworks.flats import flat
from waitworks.houses import House, Module
from waitworks.logs import explained, log_of
from waitworks.rows import Row

from models import ANY_VALUES, HOUSE, some_arrivals
from test_logs import LOG, logged_house

BENT = (LOG[0], ("done", (5, 9, 14)), LOG[2], LOG[3])


def is_blame_by_hand(house, log, value):
    """The words of the document, for values of the right form."""
    times = dict(log)
    links = flat(house, "m")[1]
    gap = lambda link, n: times[link[1]][n] - times[link[0]][n - link[2]]
    many = len(log[0][1])
    if value[0] == "early":
        _, at, n = value
        return links[at][2] <= n < many and gap(links[at], n) < 0
    _, place, n, others = value
    coming = [link for link in links if link[1] == place]
    if place in house["m"].inlets or len(others) != len(coming) or n >= many:
        return False
    if times[place][n] == 0 or (n > 0 and times[place][n] == times[place][n - 1]):
        return False
    for link, m in zip(coming, others):
        if m is None:
            if n >= link[2]:
                return False
        elif n < link[2] or not link[2] <= m < many or gap(link, m) >= gap(link, n):
            return False
    return True


class BlameTest(unittest.TestCase):
    def test_blames(self):
        rng = random.Random(221)
        seen = {"early": 0, "late": 0, "explained": 0, True: 0, False: 0}
        while min(seen.values()) < 30:
            house, log = logged_house(rng)
            found = blame(house=house, name="m", log=log)
            if explained(house, "m", log):
                seen["explained"] += 1
                self.assertIsNone(found)
            else:
                seen[found[0]] += 1
                self.assertIsInstance(found, tuple)
                self.assertTrue(is_blame_by_hand(house, log, found))
                self.assertIs(blame_holds(house=house, name="m", log=log, value=found), True)
            if not log:
                continue
            places, links = flat(house, "m")
            for _ in range(6):
                if links and rng.random() < 0.4:
                    value = ("early", rng.randrange(len(links)), rng.randint(0, 5))
                else:
                    place = rng.choice(places)
                    coming = [link for link in links if link[1] == place]
                    value = ("late", place, rng.randint(0, 5), tuple([rng.choice([None, 0, 1, 2, 3, 4]) for _ in coming]))
                if found is not None and found[0] == "late" and rng.random() < 0.5:
                    value = (*found[:3], tuple([rng.choice([m, m, m, rng.randint(0, 5), None]) for m in found[3]]))
                wanted = is_blame_by_hand(house, log, value)
                seen[wanted] += 1
                self.assertIs(blame_holds(house, "m", log, value), wanted)

    def test_any_values(self):
        late, early = ("late", "done", 2, (0,)), ("early", 1, 1)
        self.assertIs(blame_holds(HOUSE, "shop", BENT, late), True)
        self.assertIs(blame_holds(HOUSE, "shop", BENT, ("late", "done", 2, (1,))), True)
        fast = (("cut", (0, 2, 8)), *LOG[1:])
        self.assertIs(blame_holds(HOUSE, "shop", fast, early), True)
        for value in (("late", "done", 2, (2,)), ("late", "done", 1, (0,)), ("late", "done", 2, ()), ("late", "done", 2, (0, 0)), ("late", "done", 2, [0]), list(late),
                      ("late", "order", 2, ()), ("late", "cut", 0, (0, None)), ("late", "done", True, (0,)), ("late", "done", 2, (False,)), ("late", "done", 2, (None,)),
                      ("late", "done", 3, (0,)), ("late", "done", -1, (0,)), ("late", "done", 2, (3,)), ("late", "done", 2, (-1,)), (*late, 0), late[:3], ("soon", *late[1:])):
            self.assertIs(blame_holds(HOUSE, "shop", BENT, value), False, value)
        for value in (("early", 1, 2), ("early", 0, 1), ("early", 4, 1), ("early", -3, 1), ("early", True, 1), ("early", 1, True), ("early", 1, -2), ("early", 1, 0), ("early", 1), ["early", 1, 1]):
            self.assertIs(blame_holds(HOUSE, "shop", fast, value), False, value)
        for value in ANY_VALUES:
            for log, paper in ((BENT, late), (fast, early)):
                self.assertIs(blame_holds(HOUSE, "shop", log, value), False)
                for at in range(len(paper)):
                    if value != paper[at] or isinstance(value, bool):
                        other = (*paper[:at], value, *paper[at + 1:])
                        self.assertIs(blame_holds(HOUSE, "shop", log, other), False)
            self.assertIs(blame_holds(HOUSE, "shop", BENT, ("late", "done", 2, (value,))), value in (0, 1) and not isinstance(value, bool))

    def test_without_a_link(self):
        house = House([Module("m", [], [], ["s"], [("s", "s", 2, 4)])])
        self.assertEqual(blame(house, "m", [("s", [1, 1, 5])]), ("late", "s", 0, (None,)))
        self.assertEqual(blame(house, "m", [("s", [0, 3])]), ("late", "s", 1, (None,)))
        self.assertIsNone(blame(house, "m", [("s", [0, 0, 7, 7, 14])]))
        self.assertEqual(blame(House([Module("m", [], [], ["s"], [])]), "m", [("s", [0, 0, 2])]), ("late", "s", 2, ()))
        self.assertIs(blame_holds(house, "m", [("s", [0, 0, 7, 7, 15])], ("late", "s", 4, (2,))), True)

    def test_told(self):
        self.assertEqual(blame(HOUSE, "shop", BENT)[:3], ("late", "done", 2))
        self.assertIsNone(blame(HOUSE, "shop", LOG))


class SpansTest(unittest.TestCase):
    def test_by_hand(self):
        rng = random.Random(222)
        seen = {"none": 0, "clash": 0}
        while min(seen.values()) < 60:
            house, log = logged_house(rng)
            places, links = flat(house, "m")
            spans = []
            for link in links:
                low = max(0, link[3] - rng.randint(0, 2))
                spans.append((low, max(low, link[3] + rng.randint(-1, 2))))
            times = dict(log)
            wrong = []
            for place in places:
                if place not in house["m"].inlets:
                    for n, time in enumerate(times[place]):
                        ends = [[0] + list(times[place][max(0, n - 1):n]) for _ in range(2)]
                        for link, span in zip(links, spans):
                            if link[1] == place and n >= link[2]:
                                for side in range(2):
                                    ends[side].append(times[link[0]][n - link[2]] + span[side])
                        if time < max(ends[0]) or time > max(ends[1]):
                            wrong.append((place, n))
            found = spans_clash(house=house, name="m", spans=spans, log=log)
            self.assertEqual(found, min(wrong, default=None))
            seen["none" if found is None else "clash"] += 1

    def test_told(self):
        self.assertIsNone(spans_clash(HOUSE, "shop", [(3, 3), (1, 1), (2, 3), (0, 0)], BENT))
        self.assertEqual(spans_clash(HOUSE, "shop", [(3, 3), (1, 1), (2, 2), (0, 0)], BENT), ("done", 2))
        self.assertEqual(spans_clash(HOUSE, "shop", ((4, 9), (1, 1), (3, 3), (0, 0)), BENT), ("done", 0))
        self.assertEqual(spans_clash(HOUSE, "shop", ((4, 9), (1, 1), (2, 3), (0, 0)), BENT), ("fold", 0))

    def test_of_runs(self):
        rng = random.Random(223)
        for _ in range(40):
            house, _ = logged_house(rng)
            links = flat(house, "m")[1]
            log = log_of(house, "m", some_arrivals(rng, house["m"]), 6)
            self.assertIsNone(spans_clash(house, "m", [(link[3], link[3]) for link in links], log))


if __name__ == "__main__":
    unittest.main()
