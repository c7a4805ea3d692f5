"""Points 93 to 96: days on which arrivals come one by one."""

import random
import unittest

from waitworks.days import Day
from waitworks.errors import InvalidWishes, NoPlace, Refused
from waitworks.faces import face
from waitworks.flats import flat
from waitworks.houses import House, Module
from waitworks.latest import latest
from waitworks.rows import Row, first_above, is_at_most, unit
from waitworks.runs import run

from models import ANY_VALUES, HOUSE, busy_house, error_of, some_house, walk

FAR = 10 ** 6


def some_day(rng):
    """A house by chance, and a day of it with some arrivals."""
    house = some_house(rng, stations=3, lasts=3) if rng.random() < 0.4 else busy_house(rng, inlets=rng.choice(["i", "ij"]), outlets=rng.choice(["o", "op"]), loose=0.3)
    day = Day(house=house, name="m")
    for at in range(rng.randint(0, 6)):
        if house["m"].inlets:
            number = rng.randrange(len(house["m"].inlets))
            last = day.arrivals[number][-1] if day.arrivals[number] else 0
            day.come(inlet=house["m"].inlets[number], time=last + rng.choice([0, 0, 1, 3]))
    return house, day


def rows_with(day, late):
    """The arrivals if all others come with the last one, or (late) very much later."""
    found = []
    for number, times in enumerate(day.arrivals):
        last = FAR * (number + 1) if late else times[-1] if times else 0
        found.append(Row(times, [last]))
    return found


class SureTest(unittest.TestCase):
    def test_by_hand(self):
        rng = random.Random(281)
        seen = {"all": 0, "some": 0, "none": 0, "open": 0}
        while min(seen.values()) < 40:
            house, day = some_day(rng)
            early, late = [walk(house, "m", rows_with(day, kind), 16) for kind in (False, True)]
            for place in flat(house, "m")[0]:
                # What is at the same time, however late the others come, is sure.
                same = [one == other for one, other in zip(early[place], late[place])]
                many = same.index(False) if False in same else None
                found = day.sure(place=place)
                if many is None and found is not None:
                    self.assertGreaterEqual(found, 16)
                else:
                    self.assertEqual(found, many)
                seen["all" if found is None else "none" if found == 0 else "some"] += 1
                for n in (0, 1, rng.randint(0, 15), 15):
                    self.assertEqual(day.earliest(place=place, n=n), early[place][n])
                    wanted = early[place][n] if found is None or n < found else None
                    self.assertEqual(day.time(place=place, n=n), wanted)
                    seen["open"] += wanted is None
                self.assertEqual(day.earliest(place, 10 ** 15), dict(run(house, "m", rows_with(day, False)))[place].time(10 ** 15))

    def test_come(self):
        day = Day(HOUSE, "shop")
        self.assertEqual((day.house, day.name, day.arrivals), (HOUSE, "shop", ((),)))
        self.assertEqual([day.come("order", time) for time in (0, 1, 1, 7)], [1, 2, 3, 4])
        self.assertEqual((day.arrivals, len(day)), (((0, 1, 1, 7),), 4))
        for value in ANY_VALUES:
            if value != "order":
                self.assertIs(error_of(self, NoPlace, day.come, value, None).name, value)
            if value != 10 ** 15:
                self.assertEqual(error_of(self, Refused, day.come, "order", value).at, 4)
            if value != "shop":
                self.assertIs(error_of(self, NoPlace, Day, HOUSE, value).name, value)
        self.assertEqual(error_of(self, Refused, day.come, "order", 6).at, 4)
        self.assertEqual(error_of(self, Refused, Day(HOUSE, "shop").come, "order", -1).at, 0)
        self.assertEqual(error_of(self, Refused, Day(HOUSE, "shop").come, "order", True).at, 0)
        self.assertEqual((day.arrivals, len(day)), (((0, 1, 1, 7),), 4))

    def test_several(self):
        house = House([Module("m", ["i", "j"], ["o"], [], [("i", "o", 0, 1), ("j", "o", 1, 2)])])
        day = Day(house, "m")
        self.assertEqual(day.several(some=[("i", 3), ("j", 0), ("i", 3)]), (1, 1, 2))
        self.assertEqual((day.arrivals, len(day)), (((3, 3), (0,)), 1))
        self.assertEqual((day.several(()), day.several([]), len(day)), ((), (), 1))
        self.assertEqual((day.several([("j", 5)]), len(day), day.undo(), len(day)), ((2,), 2, True, 1))
        for value in ANY_VALUES:
            if value not in ([], ()):
                self.assertEqual(error_of(self, Refused, day.several, value).at, 0)
            self.assertEqual(error_of(self, Refused, day.several, (("i", 4), ("j", 0), value)).at, 2)
            self.assertEqual(error_of(self, Refused, day.several, (("i", 4), (value, 9))).at, 1)
            if value not in (0, 1, 10 ** 15) or isinstance(value, bool):
                self.assertEqual(error_of(self, Refused, day.several, [("j", value)]).at, 0)
        for some, at in (([("i", 4), ("i", 3)], 1), ([("i", 2)], 0), ([("j", 1), ["i", 5]], 1), ([("j", 1), ("i", 5, 5)], 1), ([("j", 1), ("o", 5)], 1)):
            self.assertEqual(error_of(self, Refused, day.several, some).at, at)
        self.assertEqual((day.arrivals, len(day)), (((3, 3), (0,)), 1))
        self.assertIs(day.undo(), True)
        self.assertEqual((day.arrivals, len(day), day.undo()), (((), ()), 0, False))

    def test_edges(self):
        day = Day(HOUSE, "shop")
        self.assertEqual([day.sure(place) for place in ("cut", "order")], [0, 0])
        self.assertEqual((day.time("done", 0), day.earliest("done", 0), day.earliest("order", 3)), (None, 5, 0))
        house = House([Module("m", ["i"], ["o"], ["s", "t"], [("i", "o", 2, 1), ("s", "s", 1, 4), ("s", "o", 0, 0), ("i", "t", 0, 0), ("t", "o", 3, 0)])])
        day = Day(house, "m")
        self.assertEqual([day.sure(place) for place in ("i", "o", "s", "t")], [0, 2, None, 0])
        self.assertEqual([day.time("s", n) for n in (0, 10 ** 15)], [0, 4 * 10 ** 15])
        day.come("i", 9)
        self.assertEqual(([day.sure(place) for place in ("i", "o", "s", "t")], day.time("o", 2), day.time("o", 3)), ([1, 3, None, 1], 10, None))
        self.assertEqual(Day(House([Module("m", [], [], ["s"], [])]), "m").sure("s"), None)
        for value in ANY_VALUES:
            if value not in ("order", "cut"):
                for ask, given in ((Day(HOUSE, "shop").sure, ()), (Day(HOUSE, "shop").earliest, (0,)), (Day(HOUSE, "shop").time, (0,))):
                    self.assertIs(error_of(self, NoPlace, ask, value, *given).name, value)

    def test_told(self):
        day = Day(HOUSE, "shop")
        told = [day.come("order", time) for time in (0, 1, 7)], day.sure("done"), [day.time("done", n) for n in range(4)], day.earliest("done", 3)
        self.assertEqual(told, ([1, 2, 3], 3, [5, 9, 13, None], 17))
        self.assertEqual((day.due("order", [Row([], [20], 6)]), day.late([Row([], [5], 4)]), day.late([Row([5, 8], [20], 6)])), (33, None, (1, "done")))


class WishTest(unittest.TestCase):
    def test_by_hand(self):
        rng = random.Random(282)
        seen = {"kept": 0, "late": 0, "any": 0, "due": 0, "hopeless": 0}
        while min(seen.values()) < 25:
            house, day = some_day(rng)
            module = house["m"]
            early = dict(run(house, "m", rows_with(day, False)))
            wishes = []
            bare = dict(run(house, "m", [unit()] * len(module.inlets)))
            for outlet in module.outlets:
                row = rng.choice([early, bare])[outlet]
                wishes.append(Row([time + rng.randint(0, 1) * 2 for time in row.first] if rng.random() < 0.2 and len(row.first) < 2 else row.first,
                                  [time + rng.choice([2, 3, 9]) for time in row.again[:1]], row.more + rng.randint(0, 3) if len(row.again) == 1 else row.more))
            found = day.can_keep(wishes=wishes)
            above = [(first_above(early[outlet], wish), at) for at, (outlet, wish) in enumerate(zip(module.outlets, wishes))]
            above = min([pair for pair in above if pair[0] is not None], default=None)
            self.assertIs(found, above is None)
            self.assertEqual(day.late(wishes=wishes), above and (above[0], module.outlets[above[1]]))
            most = latest(face(house, "m"), wishes)
            # As the document says: they are kept exactly if none is later than `latest` tells.
            fits = most is not None and all([row is None or all([time <= row.time(n) for n, time in enumerate(times)]) for times, row in zip(day.arrivals, most)])
            self.assertIs(found, fits)
            seen["kept" if found else "late"] += 1
            for at, inlet in enumerate(module.inlets):
                due = day.due(inlet=inlet, wishes=wishes)
                if not found:
                    seen["hopeless"] += 1
                    self.assertIsNone(due)
                elif most[at] is None:
                    seen["any"] += 1
                    self.assertEqual(due, "any")
                else:
                    seen["due"] += 1
                    self.assertEqual(due, most[at].time(len(day.arrivals[at])))
                    keeps = lambda time: day.within(lambda some: (some.come(inlet, time), some.can_keep(wishes))[1])
                    self.assertEqual((keeps(due), keeps(due + 1)), (True, False))

    def test_errors(self):
        day = Day(HOUSE, "shop")
        for value in ANY_VALUES:
            if value not in ([Row((), (0,))],):
                for ask, given in ((day.can_keep, ()), (day.late, ()), (lambda wishes: day.due("order", wishes), ())):
                    self.assertEqual(error_of(self, InvalidWishes, ask, value).at, 0)
            if value != "order":
                self.assertIs(error_of(self, NoPlace, day.due, value, None).name, value)
        two = Day(House([Module("m", [], ["o", "p"], [], [])]), "m")
        self.assertEqual(error_of(self, InvalidWishes, two.can_keep, [unit(), None]).at, 1)
        self.assertEqual(error_of(self, InvalidWishes, two.late, (unit(),)).at, 0)
        self.assertEqual((two.can_keep((unit(), unit())), two.late([Row([None], [0]), unit()]), two.late([unit(), Row([None, None], [0])])), (True, (0, "o"), (0, "p")))
        none = Day(House([Module("m", ["i"], [], [], [])]), "m")
        self.assertEqual((none.can_keep([]), none.due("i", []), none.late(())), (True, "any", None))

    def test_arrivals_that_are_late_by_themselves(self):
        day = Day(HOUSE, "shop")
        wishes = [Row([], [9], 4)]
        self.assertEqual((day.due("order", wishes), day.come("order", 4), day.due("order", wishes)), (4, 1, 8))
        self.assertEqual((day.come("order", 9), day.due("order", wishes), day.late(wishes), day.can_keep(wishes)), (2, None, (1, "done"), False))
        self.assertIs(is_at_most(face(HOUSE, "shop").clock[0], wishes[0]), True)


class UndoTest(unittest.TestCase):
    def test_undo_and_within(self):
        rng = random.Random(283)
        for _ in range(30):
            house, day = some_day(rng)
            if not house["m"].inlets:
                continue
            inlet = house["m"].inlets[0]
            before, many = day.arrivals, len(day)
            row = day.earliest(inlet, 20)
            with self.assertRaises(ZeroDivisionError):
                day.within(work=lambda some: (some.come(inlet, 99), some.several([(inlet, 99)] * 2), some.undo(), some.undo(), some.undo(), some.come(inlet, 77), 1 // 0))
            self.assertEqual((day.arrivals, len(day), day.earliest(inlet, 20)), (before, many, row))
            told = day.within(lambda some: [some.come(inlet, 99), some.earliest(inlet, 20), some.within(lambda inner: inner.come(inlet, 100)), len(some)])
            count = len(before[0])
            self.assertEqual(told, [count + 1, 99, count + 2, many + 1])
            self.assertEqual((day.arrivals, len(day), day.earliest(inlet, 20)), (before, many, row))
            self.assertEqual([day.undo() for _ in range(many + 1)], [True] * many + [False])
            self.assertEqual(day.arrivals, ((),) * len(before))
            self.assertEqual(day.earliest(inlet, 20), 0)

    def test_days_are_not_gone_through(self):
        with self.assertRaises(TypeError):
            iter(Day(HOUSE, "shop"))


if __name__ == "__main__":
    unittest.main()
