"""Points 33 to 36: wishes, and the latest arrivals that keep them."""

import random
import unittest

from waitworks.errors import InvalidArrivals, InvalidWishes, NoPlace
from waitworks.faces import face, out
from waitworks.houses import House, Module
from waitworks.latest import (
    can_keep, first_late, in_time, late_reason, late_reason_holds, latest, latest_goings, least_delay, spare_arrival,
)
from waitworks.rows import Row, empty, is_at_most, later, unit

from models import ANY_VALUES, HOUSE, error_of, out_by_hand, some_arrivals, some_face, some_row, things

ONE = face(HOUSE, "shop")
WISH = [Row((), (20,), 4)]


def some_wishes(rng, told):
    """Wishes by chance: some near to what is made of arrivals, also some that are nothing at first."""
    made = out(told, [some_row(rng, high=9) for _ in told.inlets])
    found = []
    for row in made:
        row = later(row, 0, rng.choice([0, 0, 5, 20]))
        kind = rng.random()
        if kind < 0.1:
            row = rng.choice([empty(), later(row, 1, 0), some_row(rng)])
        elif kind < 0.3:
            row = Row(row.first, row.again, row.more + rng.choice([0, 1, 7]))
        found.append(row)
    return found


def with_later(row, n, time):
    """The row with the n-th thing so late, and all others not ahead of it."""
    first = things(row, max(n + 1, len(row.first)))
    end = max(n + 1, len(row.first))
    again = [row.time(end + at) for at in range(len(row.again))]
    while again[0] < time:
        first += again
        again = [other + row.more for other in again]
        if row.more == 0:
            again = [time]
    return Row(first[:n] + [max(other, time) for other in first[n:]], again, row.more)


def kept_by_hand(told, wishes, arrivals, many=60):
    """Whether the first goings keep the wishes."""
    for times, wish in zip(out_by_hand(told, arrivals, many), wishes):
        for time, most in zip(times, things(wish, many)):
            if most is None or time > most:
                return False
    return True


class LatestTest(unittest.TestCase):
    def test_by_hand(self):
        rng = random.Random(61)
        seen = {"kept": 0, "hopeless": 0, "no bound": 0, "in time": 0, "late": 0}
        for _ in range(250):
            told = some_face(rng, inlets="ijk"[:rng.randint(0, 3)], outlets="op"[:rng.randint(0, 2)])
            wishes = some_wishes(rng, told)
            early = [unit()] * len(told.inlets)
            self.assertIs(can_keep(face=told, wishes=wishes), kept_by_hand(told, wishes, early))
            found = latest(face=told, wishes=wishes)
            arrivals = [some_row(rng, high=rng.choice([3, 12])) for _ in told.inlets]
            self.assertIs(in_time(face=told, wishes=wishes, arrivals=arrivals), kept_by_hand(told, wishes, arrivals))
            if not can_keep(told, wishes):
                seen["hopeless"] += 1
                self.assertIsNone(found)
                continue
            seen["kept"] += 1
            self.assertEqual(len(found), len(told.inlets))
            most = [unit() if row is None else row for row in found]
            self.assertTrue(kept_by_hand(told, wishes, most))
            for at, row in enumerate(found):
                if row is None:
                    seen["no bound"] += 1
                    self.assertTrue(all([rows[at] == empty() for rows in told.rows]))
                    continue
                n = rng.randint(0, 12)
                worse = early[:at] + [with_later(row, n, row.time(n) + 1)] + early[at + 1:]
                self.assertFalse(kept_by_hand(told, wishes, worse))
            kept = all([row is None or is_at_most(came, row) for came, row in zip(arrivals, found)])
            self.assertIs(in_time(told, wishes, arrivals), kept)
            seen["in time" if kept else "late"] += 1
        self.assertGreater(min(seen.values()), 20)

    def test_first_late(self):
        rng = random.Random(62)
        seen = {"kept": 0, "late": 0}
        for _ in range(150):
            told = some_face(rng)
            wishes = [row if row != empty() else Row([0], [1], 1) for row in some_wishes(rng, told)]
            arrivals = some_arrivals(rng, HOUSE["shop"]) + some_arrivals(rng, HOUSE["shop"])
            late = []
            for n in range(80):
                for at, times in enumerate(out_by_hand(told, arrivals, n + 1) if n == 79 else []):
                    late += [(m, at) for m, time in enumerate(times) if wishes[at].time(m) is None or time > wishes[at].time(m)]
            found = first_late(face=told, wishes=wishes, arrivals=arrivals)
            if late:
                seen["late"] += 1
                self.assertEqual(found, (min(late)[0], told.outlets[min(late)[1]]))
            else:
                seen["kept"] += 1
                self.assertTrue(found is None or found[0] >= 80)
        self.assertGreater(min(seen.values()), 20)

    def test_told(self):
        self.assertEqual(latest(ONE, WISH), (Row((), (15,), 4),))
        self.assertIs(can_keep(ONE, [Row((), (4,), 4)]), False)
        self.assertIsNone(latest(ONE, [Row((), (4,), 4)]))
        self.assertEqual(first_late(ONE, WISH, [Row((), (1,), 5)]), (15, "done"))
        self.assertIsNone(first_late(ONE, WISH, [unit()]))
        self.assertIs(in_time(ONE, WISH, (Row((), (15,), 4),)), True)
        self.assertIs(in_time(ONE, WISH, (Row((), (15, 20), 8),)), False)
        # Wishes that grow less than the clock are kept by nothing; so are such that have nothing at first.
        for wish in (Row((), (10 ** 6,), 3), Row([None], [99], 4), empty(), Row((), (99,))):
            self.assertIs(can_keep(ONE, [wish]), False)
            self.assertIsNone(latest(ONE, [wish]))

    def test_far_out(self):
        # The first going above the wish is far out.
        arrivals = [Row((), (0,) * 12, 49)]
        self.assertEqual(first_late(ONE, [Row((), (999,), 4)], arrivals), (11940, "done"))
        self.assertEqual([out(ONE, arrivals)[0].time(n) > 999 + 4 * n for n in (11939, 11940)], [False, True])

    def test_unreached(self):
        # Outlets that no inlet reaches, inlets from which no outlet is reached, and no outlets at all.
        house = House([Module("m", ["i", "j"], ["o", "p"], ["s"], [("i", "o", 1, 2), ("s", "p", 0, 7), ("j", "s", 0, 0), ("s", "s", 1, 2)])])
        told = face(house, "m")
        self.assertEqual([str(row) for row in latest(told, [Row([], [9], 1), Row([], [9], 2)])], ["| 8 + 1", "| 2 + 2"])
        cut = face(House([Module("m", ["i", "j"], ["o", "p"], [], [("i", "o", 1, 2)])]), "m")
        found = latest(cut, [Row([0], [9], 1), unit()])
        self.assertEqual((str(found[0]), found[1]), ("| 7 + 1", None))
        self.assertIsNone(latest(cut, [Row([0], [9], 1), Row([-1], [0])]))
        bare = face(House([Module("m", ["i"], [], [], [])]), "m")
        self.assertEqual((latest(bare, []), can_keep(bare, ()), in_time(bare, [], [unit()]), least_delay(bare, [])), ((None,), True, True, 0))
        self.assertEqual((spare_arrival(bare, [], [unit()], "i", 3), late_reason(bare, [], "i", 3)), (None, None))

    def test_least_delay(self):
        rng = random.Random(63)
        seen = {"none": 0, "some": 0, "zero": 0}
        for _ in range(150):
            told = some_face(rng)
            wishes = [rng.choice([row, later(row, 0, -rng.randint(0, 30)), some_row(rng, low=-9)]) for row in some_wishes(rng, told)]
            delay = least_delay(face=told, wishes=wishes)
            late = lambda d: can_keep(told, [later(row, 0, d) for row in wishes])
            if delay is None:
                seen["none"] += 1
                self.assertFalse(late(10 ** 5))
            else:
                seen["some" if delay else "zero"] += 1
                self.assertTrue(late(delay))
                self.assertFalse(delay > 0 and late(delay - 1))
        self.assertGreater(min(seen.values()), 15)
        self.assertEqual(least_delay(ONE, [Row((), (4,), 4)]), 1)
        self.assertIsNone(least_delay(ONE, [Row((), (4,), 3)]))

    def test_order_of_errors(self):
        wide = some_face(random.Random(1))
        asks = (
            lambda wishes: can_keep(wide, wishes), lambda wishes: latest(wide, wishes), lambda wishes: least_delay(wide, wishes),
            lambda wishes: in_time(wide, wishes, None), lambda wishes: first_late(wide, wishes, None),
            lambda wishes: spare_arrival(wide, wishes, None, None, 0), lambda wishes: late_reason(wide, wishes, None, 0),
            lambda wishes: late_reason_holds(wide, wishes, None, 0, None), lambda wishes: latest_goings(wide, wishes),
        )
        for ask in asks:
            for bad in ANY_VALUES:
                at = 0
                if isinstance(bad, (list, tuple)) and len(bad) == 2:
                    at = 1 if isinstance(bad[0], Row) and ask != asks[-1] else 0
                self.assertEqual(error_of(self, InvalidWishes, ask, bad).at, at)
            for bad, at in (([unit()], 0), ([unit(), None], 1), ((unit(), (1, 2)), 1), ([None, None], 0), ([unit()] * 3, 0)):
                if ask != asks[-1]:
                    self.assertEqual(error_of(self, InvalidWishes, ask, bad).at, at)
        for ask in (in_time, first_late):
            self.assertEqual(error_of(self, InvalidArrivals, ask, wide, [unit(), unit()], [unit()]).at, 0)
            self.assertEqual(error_of(self, InvalidArrivals, ask, wide, [unit(), unit()], [unit(), empty()]).at, 1)
            self.assertEqual(error_of(self, InvalidArrivals, ask, wide, [unit(), unit()], [unit(), Row([-1], [0])]).at, 1)


class SpareTest(unittest.TestCase):
    def test_by_hand(self):
        rng = random.Random(64)
        seen = {"no bound": 0, "nothing": 0, "some": 0}
        for _ in range(500):
            told = some_face(rng, loose=0.3)
            wishes = some_wishes(rng, told)
            arrivals = [some_row(rng, high=5, more=2) for _ in told.inlets]
            if not can_keep(told, wishes) or not in_time(told, wishes, arrivals):
                continue
            at, n = rng.randint(0, 1), rng.randint(0, 8)
            spare = spare_arrival(face=told, wishes=wishes, arrivals=arrivals, name="ij"[at], n=n)
            moved = lambda d: arrivals[:at] + [with_later(arrivals[at], n, arrivals[at].time(n) + d)] + arrivals[at + 1:]
            if spare is None:
                seen["no bound"] += 1
                self.assertTrue(kept_by_hand(told, wishes, moved(10 ** 4)))
            else:
                seen["some" if spare else "nothing"] += 1
                self.assertTrue(kept_by_hand(told, wishes, moved(spare)))
                self.assertFalse(kept_by_hand(told, wishes, moved(spare + 1)))
        self.assertGreater(min(seen.values()), 3)

    def test_told(self):
        self.assertEqual(spare_arrival(ONE, WISH, [Row((), (1,), 4)], "order", 3), 14)
        self.assertEqual(spare_arrival(ONE, WISH, [Row((), (1,), 4)], "order", 10 ** 15), 14)
        self.assertEqual(spare_arrival(ONE, WISH, [unit()], "order", 10 ** 15), 15 + 4 * 10 ** 15)

    def test_order_of_errors(self):
        late, hopeless = [Row((), (16,), 4)], [Row((), (4,), 4)]
        for bad in ANY_VALUES:
            if bad != [unit()]:
                self.assertEqual(error_of(self, InvalidArrivals, spare_arrival, ONE, WISH, bad, None, 0).at, 0)
        self.assertEqual(error_of(self, InvalidArrivals, spare_arrival, ONE, WISH, late, None, 0).at, 0)
        self.assertEqual(error_of(self, InvalidArrivals, spare_arrival, ONE, hopeless, [unit()], None, 0).at, 0)
        for bad in ANY_VALUES:
            if bad != "order":
                self.assertIs(error_of(self, NoPlace, spare_arrival, ONE, WISH, [unit()], bad, 0).name, bad)
        house = House([Module("m", ["i", "j"], ["o"], [], [("i", "o", 0, 0), ("j", "o", 0, 1)])])
        wide = face(house, "m")
        self.assertEqual(error_of(self, InvalidArrivals, spare_arrival, wide, [Row([], [3])], [unit(), Row([], [3])], "x", 0).at, 1)
        self.assertEqual(error_of(self, InvalidArrivals, spare_arrival, wide, [unit()], [unit(), unit()], "x", 0).at, 0)


class ReasonTest(unittest.TestCase):
    def test_by_hand(self):
        rng = random.Random(65)
        seen = {True: 0, False: 0, None: 0}
        for _ in range(200):
            told = some_face(rng, loose=0.3)
            wishes = some_wishes(rng, told)
            if not can_keep(told, wishes):
                continue
            at, n = rng.randint(0, 1), rng.randint(0, 6)
            found = late_reason(face=told, wishes=wishes, name="ij"[at], n=n)
            limit = latest(told, wishes)[at]
            self.assertIs(found is None, limit is None)
            if limit is None:
                seen[None] += 1
                self.assertIs(late_reason_holds(told, wishes, "ij"[at], n, ("o", n)), False)
                continue
            arrivals = [unit(), unit()]
            arrivals[at] = with_later(limit, n, limit.time(n) + 1)
            times = out_by_hand(told, arrivals, 60)
            self.assertIs(late_reason_holds(face=told, wishes=wishes, name="ij"[at], n=n, value=found), True)
            for outlet, m in [found] + [(rng.choice("op"), rng.randint(0, 20)) for _ in range(5)]:
                if m < 60:
                    number = told.outlets.index(outlet)
                    wanted = times[number][m] > wishes[number].time(m)
                    self.assertIs(late_reason_holds(told, wishes, "ij"[at], n, (outlet, m)), wanted)
                    seen[wanted] += 1
        self.assertGreater(min(seen.values()), 10)

    def test_told(self):
        wish = [Row([], [20], 6)]
        self.assertEqual(late_reason(ONE, wish, "order", 2), ("done", 2))
        self.assertIs(late_reason_holds(ONE, wish, "order", 2, ("done", 2)), True)
        self.assertEqual(late_reason(ONE, wish, "order", 10 ** 15), ("done", 10 ** 15))
        self.assertIs(late_reason_holds(ONE, WISH, "order", 2, ("done", 10 ** 15)), True)
        for value in (("done", 3), ("done", 1), ("done", -1), ("done", True), ("done", None), ("order", 2), ["done", 2], ("done", 2, 2), (("done",), 2)):
            self.assertIs(late_reason_holds(ONE, wish, "order", 2, value), False)
        for value in ANY_VALUES:
            self.assertIs(late_reason_holds(ONE, wish, "order", 2, value), False)
            self.assertIs(late_reason_holds(ONE, wish, "order", 2, (value, 2)), False)
            self.assertIs(late_reason_holds(ONE, wish, "order", 2, ("done", value)), False)

    def test_order_of_errors(self):
        hopeless = [Row((), (4,), 4)]
        for ask in (late_reason, lambda *given: late_reason_holds(*given, None)):
            self.assertEqual(error_of(self, InvalidWishes, ask, ONE, hopeless, None, 0).at, 0)
            for bad in ANY_VALUES:
                if bad != "order":
                    self.assertIs(error_of(self, NoPlace, ask, ONE, WISH, bad, 0).name, bad)
            house = House([Module("m", ["i"], ["o", "p"], [], [("i", "p", 0, 5)])])
            self.assertEqual(error_of(self, InvalidWishes, ask, face(house, "m"), [unit(), Row((), (4,))], "i", 0).at, 1)
            self.assertEqual(error_of(self, InvalidWishes, ask, face(house, "m"), [Row([-1], [0]), unit()], "x", 0).at, 0)


class GoingsTest(unittest.TestCase):
    def test_by_hand(self):
        rng = random.Random(66)
        seen = {"none": 0, "bound": 0, "no bound": 0, "falling": 0}
        for _ in range(250):
            told = some_face(rng, lasts=rng.choice([0, 3]), inlets="ij"[:rng.randint(0, 2)], outlets="op"[:rng.randint(1, 2)])
            many = rng.randint(1, 6)
            made = out_by_hand(told, [some_row(rng, high=6) for _ in told.inlets], many)
            wishes = [[time + rng.choice([-1, 0, 0, 1, 4]) for time in times] for times in made]
            found = latest_goings(face=told, wishes=wishes)
            reached = out_by_hand(told, [unit()] * len(told.inlets), many)
            if any([time > wish for times, some in zip(reached, wishes) for time, wish in zip(times, some)]):
                seen["none"] += 1
                self.assertIsNone(found)
                continue
            seen["falling"] += any([some != sorted(some) for some in wishes])
            self.assertEqual([len(some) for some in found], [many] * len(told.inlets))
            kept = lambda arrivals: all([time <= wish for times, some in zip(out_by_hand(told, arrivals, many), wishes) for time, wish in zip(times, some)])
            far = 10 ** 6
            rows = [Row([far if time is None else time for time in some], [far]) for some in found]
            self.assertTrue(kept(rows))
            for at, some in enumerate(found):
                for n, time in enumerate(some):
                    if time is None:
                        seen["no bound"] += 1
                        self.assertTrue(all([other is None for other in some[n:]]))
                    else:
                        seen["bound"] += 1
                        worse = Row([max(other, time + 1) if m >= n else other for m, other in enumerate(things(rows[at], many))], [far + 1])
                        self.assertFalse(kept(rows[:at] + [worse] + rows[at + 1:]))
        self.assertGreater(min(seen.values()), 20)

    def test_told(self):
        self.assertEqual(latest_goings(ONE, [[9, 9, 30]]), ((0, 4, 25),))
        self.assertEqual(latest_goings(ONE, ((30, 20, 13),)), ((0, 4, 8),))
        self.assertIsNone(latest_goings(ONE, [[4]]))
        self.assertEqual(latest_goings(ONE, [[5]]), ((0,),))
        late = face(House([Module("m", ["i", "j"], ["o"], [], [("i", "o", 2, 3)])]), "m")
        self.assertEqual(latest_goings(late, [[0, 0, 9]]), ((6, None, None), (None, None, None)))
        self.assertEqual(latest_goings(late, [[0, 0]]), ((None, None), (None, None)))
        self.assertEqual(latest_goings(face(House([Module("m", ["i"], [], [], [])]), "m"), []), ((),))

    def test_errors(self):
        wide = some_face(random.Random(1))
        good = [100, 100]
        for bad in (None, (), [], [good], [good] * 3, [None, good], [[], good], [good[:1], None], "ab", [[1, True], good], [[1, None], good], [WISH[0], good]):
            at = 1 if bad == [good[:1], None] else 0
            self.assertEqual(error_of(self, InvalidWishes, latest_goings, wide, bad).at, at)
        for bad in ([], [100], [100] * 3, None, [100, "a"], [100, True], unit(), (100, None)):
            self.assertEqual(error_of(self, InvalidWishes, latest_goings, wide, [good, bad]).at, 1)
            self.assertEqual(error_of(self, InvalidWishes, latest_goings, wide, (tuple(good), bad)).at, 1)


if __name__ == "__main__":
    unittest.main()
