"""Point 32: partings of two faces, and how much later one is."""

import random
import unittest

from waitworks.faces import face, out
from waitworks.houses import House, Module
from waitworks.partings import late_by, never_later, parting, parting_holds
from waitworks.rows import Row, empty, unit

from models import ANY_VALUES, HOUSE, busy_house, out_by_hand, some_arrivals


def holds_by_hand(one, other, value):
    """Whether a triple of the right form is a parting, by its words."""
    arrivals, outlet, n = value
    at = one.outlets.index(outlet)
    return out_by_hand(one, arrivals, n + 1)[at][n] != out_by_hand(other, arrivals, n + 1)[at][n]


def two_faces(rng, lasts=4):
    """Two faces with the same inlets and outlets, also alike or nearly alike ones."""
    inlets, outlets = "ij"[:rng.randint(0, 2)], "op"[:rng.randint(0, 2)]
    house = busy_house(rng, inlets=inlets, outlets=outlets, lasts=lasts)
    if rng.random() < 0.4:
        return face(house, "m"), face(busy_house(rng, inlets=inlets, outlets=outlets, lasts=lasts), "m")
    module = house["m"]
    links = list(module.links)
    if links and rng.random() < 0.8:
        at = rng.randrange(len(links))
        first, then, marks, last = links[at]
        links[at] = (first, then, marks + rng.choice([0, 1]), last + rng.choice([0, 1, 7]))
    return face(house, "m"), face(House([Module("m", module.inlets, module.outlets, module.stations, links)]), "m")


class PartingTest(unittest.TestCase):
    def test_partings_that_are_made(self):
        rng = random.Random(51)
        seen = {"equal": 0, "clock": 0, "row": 0}
        for _ in range(250):
            one, other = two_faces(rng)
            found = parting(one=one, other=other)
            self.assertIs(found is None, one == other)
            if found is None:
                seen["equal"] += 1
                continue
            seen["clock" if one.clock != other.clock else "row"] += 1
            self.assertIsInstance(found, tuple)
            self.assertIsInstance(found[0], tuple)
            self.assertTrue(holds_by_hand(one, other, found))
            self.assertIs(parting_holds(one, other, found), True)
            self.assertIs(parting_holds(other, one, found), True)
            self.assertIs(parting_holds(one, one, found), False)
        self.assertGreater(min(seen.values()), 2)

    def test_partings_with_something_otherwise(self):
        rng = random.Random(52)
        seen = {True: 0, False: 0}
        for _ in range(250):
            one, other = two_faces(rng)
            if not one.outlets:
                continue
            for _ in range(4):
                arrivals = tuple([rng.choice([unit(), Row([], [rng.randint(0, 40)]), row]) for row in some_arrivals(rng, HOUSE["shop"]) * len(one.inlets)])
                value = (arrivals, rng.choice(one.outlets), rng.randint(0, 12))
                wanted = holds_by_hand(one, other, value)
                self.assertIs(parting_holds(one=one, other=other, value=value), wanted)
                seen[wanted] += 1
        self.assertGreater(min(seen.values()), 100)

    def test_rows_alone(self):
        # With the same clock: what comes late enough shows the rows.
        links = [("i", "o", 0, 2), ("s", "o", 0, 40), ("s", "s", 1, 3)]
        one = face(House([Module("m", ["i", "j"], ["o"], ["s"], links)]), "m")
        for more in ([("i", "o", 0, 9)], [("i", "o", 3, 4)], [("j", "o", 2, 4)], [("j", "o", 0, 40)]):
            other = face(House([Module("m", ["i", "j"], ["o"], ["s"], links + more)]), "m")
            self.assertEqual(one.clock, other.clock)
            found = parting(one, other)
            self.assertTrue(holds_by_hand(one, other, found))
            self.assertNotEqual(out(one, found[0])[0].time(found[2]), out(other, found[0])[0].time(found[2]))

    def test_far_out(self):
        slow, quick = [], []
        for lasts, found in ((999, slow), (998, quick)):
            links = [("i", "s", 0, 0), ("s", "s", 1, lasts), ("s", "o", 0, 0), ("i", "t", 0, 0), ("t", "t", 1, 998), ("t", "o", 0, 900)]
            found.append(face(House([Module("m", ["i"], ["o"], ["s", "t"], links)]), "m"))
        found = parting(slow[0], quick[0])
        self.assertIs(parting_holds(slow[0], quick[0], found), True)
        self.assertGreater(found[2], 800)
        value = (found[0], "o", 10 ** 15)
        self.assertIs(parting_holds(slow[0], quick[0], value), True)
        self.assertIs(parting_holds(slow[0], quick[0], (found[0], "o", 3)), False)

    def test_any_values(self):
        one, other = face(HOUSE, "shop"), face(House([Module("shop", ["order"], ["done"], [], [("order", "done", 0, 5)])]), "shop")
        good = ((unit(),), "done", 1)
        self.assertIs(parting_holds(one, other, good), True)
        for value in (good[:2], list(good), ([unit()], "done", 1), ((unit(), unit()), "done", 1), ((), "done", 1), ((unit(),), "order", 1),
                      ((unit(),), "done", 0), ((unit(),), "done", -1), ((unit(),), "done", True), ((Row([-1], [0]),), "done", 1),
                      ((Row([None], [0]),), "done", 1), ((empty(),), "done", 1), ((unit(),), ("done",), 1), (*good, 1), ((None,), "done", 1)):
            self.assertIs(parting_holds(one, other, value), False)
        for value in ANY_VALUES:
            self.assertIs(parting_holds(one, other, value), False)
            for at in range(3):
                number = at == 2 and not isinstance(value, bool) and value in (1, 10 ** 15)
                self.assertIs(parting_holds(one, other, good[:at] + (value,) + good[at + 1:]), number)
            self.assertIs(parting_holds(one, other, ((value,), "done", 1)), value == unit())


class LaterTest(unittest.TestCase):
    def test_by_hand(self):
        rng = random.Random(53)
        seen = {"never later": 0, "sometimes": 0, "no bound": 0, "below 0": 0, "above 0": 0}
        for _ in range(250):
            one, other = two_faces(rng, lasts=rng.choice([2, 6]))
            found = late_by(one=one, other=other)
            self.assertEqual(len(found), len(one.outlets))
            never = never_later(one=one, other=other)
            self.assertIs(never, all([some is not None and some <= 0 for some in found]))
            seen["never later" if never else "sometimes"] += 1
            reached = [None] * len(found)
            early = [unit()] * len(one.inlets)
            tries = [early] + [early[:at] + [Row([], [500])] + early[at + 1:] for at in range(len(one.inlets))]
            tries += [some_arrivals(rng, HOUSE["shop"]) * len(one.inlets) for _ in range(3)]
            for arrivals in tries:
                for at, (mine, yours) in enumerate(zip(out_by_hand(one, arrivals, 60), out_by_hand(other, arrivals, 60))):
                    gaps = [time - wait for time, wait in zip(mine, yours)]
                    reached[at] = max(gaps) if reached[at] is None else max(reached[at], max(gaps))
            for most, some in zip(found, reached):
                if most is None:
                    seen["no bound"] += 1
                    self.assertGreater(some, 5)
                else:
                    seen["above 0" if most > 0 else "below 0"] += most != 0
                    self.assertEqual(some, most)
        self.assertGreater(min(seen.values()), 6)

    def test_told(self):
        one = face(HOUSE, "shop")
        self.assertIs(never_later(one, one), True)
        self.assertEqual(late_by(one, one), (0,))
        def shop(*links):
            return face(House([Module("shop", ["order"], ["done"], ["x"], list(links))]), "shop")
        self.assertEqual(late_by(shop(("order", "done", 0, 3)), one), (-2,))
        self.assertEqual(late_by(one, shop(("order", "done", 0, 3))), (None,))
        self.assertEqual(late_by(shop(("order", "x", 0, 9), ("x", "x", 1, 4), ("x", "done", 0, 0)), one), (4,))
        # Nothing comes of an inlet by the one: all that comes of it is later by the other without a bound.
        self.assertEqual(late_by(shop(), one), (-5,))
        self.assertEqual(late_by(one, shop(("x", "done", 0, 99), ("x", "x", 1, 4))), (None,))
        self.assertIs(never_later(one, shop(("x", "done", 0, 99), ("x", "x", 1, 4))), False)
        nothing = face(House([Module("m", ["i"], [], [], [])]), "m")
        self.assertEqual((late_by(nothing, nothing), never_later(nothing, nothing), parting(nothing, nothing)), ((), True, None))


if __name__ == "__main__":
    unittest.main()
