"""Points 38 and 39: contracts, how long things stay, and how many are within."""

import random
import unittest

from waitworks.contracts import (
    contract_for_heap, contract_for_stay, contract_of, contract_out, heap, is_contract, keeps, stay, stay_going,
)
from waitworks.errors import InvalidContract, NoPlace
from waitworks.faces import face, out
from waitworks.houses import House, Module
from waitworks.rows import Row, empty, is_at_most, later, unit

from models import (
    ANY_VALUES, HOUSE, error_of, kept_arrivals, out_by_hand, some_contract, some_face, some_row, things,
)

ONE = face(HOUSE, "shop")
SLOW, PAIRS, FAST = Row([], [0], 6), Row([], [0, 0], 12), Row([], [0], 3)
FAR = 10 ** 4


def is_contract_by_hand(row, many=80):
    times = things(row, many)
    if times[0] != 0:
        return False
    return all([times[i + j] >= times[i] + times[j] for i in range(many) for j in range(many - i)])


def one_inlet(rng, **limits):
    return some_face(rng, inlets="i", outlets="op"[:rng.randint(1, 2)], **limits)


class ContractTest(unittest.TestCase):
    def test_is_contract(self):
        rng = random.Random(71)
        seen = {True: 0, False: 0}
        for _ in range(400):
            row = some_contract(rng) if rng.random() < 0.3 else some_row(rng, first=3, again=3, low=rng.choice([0, 0, -2]), high=6)
            if rng.random() < 0.5 and row.time(0) is not None:
                row = Row([0, *row.first[1:]] if row.first else row.first, row.again, row.more) if row.first and row.first[0] >= 0 else later(row, 0, -row.time(0))
            wanted = is_contract_by_hand(row)
            self.assertIs(is_contract(row), wanted)
            seen[wanted] += 1
        self.assertGreater(min(seen.values()), 100)

    def test_is_contract_told(self):
        for row in (unit(), SLOW, PAIRS, FAST, Row([0, 0, 0], [9], 2), Row([0], [2], 3), Row([0, 0], [0, 1], 1)):
            self.assertIs(is_contract(value=row), is_contract_by_hand(row))
        for value in (*ANY_VALUES, empty(), Row([], [1], 3), Row([None], [0], 3), Row([-1], [0], 3), [unit()]):
            self.assertIs(is_contract(value), isinstance(value, Row) and value == unit())
        # Only far out it is none: 2 goings in 7, but never 100 within 350.
        self.assertIs(is_contract(Row([0] + [3 * n for n in range(1, 30)], [87], 2)), False)
        self.assertIs(is_contract(Row([0] + [3 * n for n in range(1, 30)], [90], 3)), True)

    def test_contract_of(self):
        rng = random.Random(72)
        for _ in range(150):
            row = some_row(rng, first=3, again=3, low=-3, high=9, nothing=0.4)
            row = later(row, 1, 0) if row.time(0) not in (None, 0) else row
            found = contract_of(row=row)
            times = [max(0, time) if time is not None else 0 for time in things(row, 40)]
            times[0] = 0
            for n in range(40):
                times[n] = max([times[n]] + [times[i] + times[n - i] for i in range(1, n)])
            self.assertEqual(things(found, 40), times)
            self.assertIs(is_contract(found), True)
            self.assertIs(is_at_most(row, found), True)
        self.assertEqual(contract_of(empty()), unit())
        self.assertEqual(contract_of(Row([0], [2], 3)), Row([0], [2], 3))
        self.assertEqual(str(contract_of(Row([None], [2], 3))), "0 | 2 + 3")
        self.assertEqual(str(contract_of(Row([None, None], [5], 0))), "| 0 0 + 5")

    def test_keeps(self):
        rng = random.Random(73)
        seen = {True: 0, False: 0}
        for _ in range(300):
            contract = some_contract(rng)
            row = kept_arrivals(rng, contract) if rng.random() < 0.4 else some_row(rng, more=9)
            if rng.random() < 0.3 and row.first:
                row = Row([row.first[0], *[max(row.first[0], time - rng.choice([0, 0, 1])) for time in row.first[1:]]], row.again, row.more) \
                    if row.first == tuple(sorted(row.first)) and len(row.first) < 2 else row
            times, apart = things(row, 80), things(contract, 80)
            wanted = all([times[n + k] >= times[n] + apart[k] for n in range(80) for k in range(80 - n)])
            self.assertIs(keeps(row=row, contract=contract), wanted)
            seen[wanted] += 1
        self.assertGreater(min(seen.values()), 60)
        self.assertIs(keeps(SLOW, PAIRS), True)
        self.assertIs(keeps(PAIRS, SLOW), False)
        self.assertIs(keeps(Row([], [10 ** 12], 6), SLOW), True)
        self.assertIs(keeps(Row([0] * 12, [0, 999], 999), unit()), True)

    def test_errors(self):
        bad_ones = [value for value in ANY_VALUES if not isinstance(value, Row)] + [empty(), Row([], [1], 3), Row([0, 3], [4], 1)]
        asks = (
            lambda bad: keeps(None, bad), lambda bad: stay(ONE, "x", bad), lambda bad: stay_going(ONE, "x", bad),
            lambda bad: heap(ONE, "x", bad), lambda bad: contract_out(ONE, "x", bad),
        )
        for ask in asks:
            for bad in bad_ones:
                error_of(self, InvalidContract, ask, bad)
        for ask in (stay, stay_going, heap, contract_out):
            for bad in ANY_VALUES:
                self.assertIs(error_of(self, NoPlace, ask, ONE, bad, SLOW).name, bad)
        for ask in (contract_for_stay, contract_for_heap):
            for bad in ANY_VALUES:
                self.assertIs(error_of(self, NoPlace, ask, ONE, bad, 9).name, bad)
        self.assertEqual(vars(InvalidContract()), {})


class StayTest(unittest.TestCase):
    def test_by_hand(self):
        rng = random.Random(74)
        seen = {"none": 0, "some": 0}
        for _ in range(150):
            told, contract = one_inlet(rng), some_contract(rng)
            at = rng.randrange(len(told.outlets))
            outlet = told.outlets[at]
            found = stay(face=told, outlet=outlet, contract=contract)
            going = stay_going(face=told, outlet=outlet, contract=contract)
            gaps = [time - come for time, come in zip(out_by_hand(told, [contract], 70)[at], things(contract, 70))]
            if found is None:
                seen["none"] += 1
                self.assertIsNone(going)
                self.assertGreater(max(gaps[-20:]), max(gaps[:30]))
                continue
            seen["some"] += 1
            self.assertEqual(found, max(gaps))
            self.assertEqual(going, gaps.index(found))
            for _ in range(3):
                arrivals = kept_arrivals(rng, contract)
                times = out_by_hand(told, [arrivals], 50)[at]
                self.assertLessEqual(max([time - come for time, come in zip(times, things(arrivals, 50))]), found)
        self.assertGreater(min(seen.values()), 30)

    def test_told(self):
        self.assertEqual([stay(ONE, "done", row) for row in (SLOW, PAIRS, FAST)], [5, 9, None])
        self.assertEqual([stay_going(ONE, "done", row) for row in (SLOW, PAIRS, FAST)], [0, 1, None])
        self.assertEqual(stay(ONE, "done", Row([], [0], 4)), 5)
        # Clocks count: a hundred come out at 100, whatever arrives.
        told = face(House([Module("m", ["i"], ["o", "p"], ["s"], [("s", "o", 0, 100)])]), "m")
        self.assertEqual((stay(told, "o", SLOW), stay(told, "p", SLOW), stay(told, "o", unit())), (100, 0, 100))
        self.assertEqual((stay_going(told, "o", SLOW), stay_going(told, "p", SLOW)), (0, 0))
        # The longest stay is far out: what comes by twelves goes one after another.
        self.assertEqual((stay(ONE, "done", Row([], [0] * 12, 48)), stay_going(ONE, "done", Row([], [0] * 12, 48))), (49, 11))


class HeapTest(unittest.TestCase):
    def behind_by(self, times, comes):
        """The least b so that each going is no later than the arrival that comes b later."""
        many = len(times)
        for b in range(len(comes) - many):
            if all([times[n] <= comes[n + b] for n in range(many)]):
                return b
        return None

    def test_by_hand(self):
        rng = random.Random(75)
        seen = {"none": 0, "zero": 0, "some": 0}
        for _ in range(200):
            told, contract = one_inlet(rng, lasts=rng.choice([1, 5])), some_contract(rng)
            at = rng.randrange(len(told.outlets))
            found = heap(face=told, outlet=told.outlets[at], contract=contract)
            least = self.behind_by(out_by_hand(told, [contract], 60)[at], things(contract, 400))
            if found is None:
                seen["none"] += 1
                self.assertTrue(least is None or least > self.behind_by(out_by_hand(told, [contract], 20)[at], things(contract, 400)))
                continue
            seen["some" if found else "zero"] += 1
            self.assertEqual(found, least)
            for _ in range(3):
                arrivals = kept_arrivals(rng, contract)
                self.assertLessEqual(self.behind_by(out_by_hand(told, [arrivals], 40)[at], things(arrivals, 400)), found)
        self.assertGreater(min(seen.values()), 10)

    def test_told(self):
        self.assertEqual([heap(ONE, "done", row) for row in (SLOW, PAIRS, FAST)], [1, 2, None])
        self.assertEqual(heap(ONE, "done", Row([], [0], 4)), 2)
        # Contracts and clocks that do not grow.
        told = face(House([Module("m", ["i"], ["o"], ["s"], [("s", "o", 3, 7)])]), "m")
        self.assertEqual(str(told.clock[0]), "0 0 0 | 7 + 0")
        self.assertEqual([heap(told, "o", Row([], [0] * 9, more)) for more in (6, 7, 10 ** 3)], [15, 6, 6])
        self.assertEqual(heap(told, "o", Row([], [0] * 3, 7)), 0)
        self.assertIsNone(heap(told, "o", unit()))
        self.assertEqual(heap(face(House([Module("m", ["i"], ["o"], [], [])]), "m"), "o", unit()), 0)

    def test_far_out(self):
        # Slow at first, and just as fast in the end.
        late = Row([0] * 200, [0], 4)
        found = heap(ONE, "done", late)
        self.assertEqual(found, 202)
        comes, goes = things(late, 900), things(ONE.clock[0], 600)
        self.assertEqual(self.behind_by(goes, comes), found)


class WantedTest(unittest.TestCase):
    def test_for_stay(self):
        rng = random.Random(76)
        seen = {"none": 0, "some": 0}
        for _ in range(150):
            told = one_inlet(rng)
            at, most = rng.randrange(len(told.outlets)), rng.randint(-2, 15)
            outlet = told.outlets[at]
            found = contract_for_stay(face=told, outlet=outlet, most=most)
            self.check_least(told, outlet, found, lambda contract: stay(told, outlet, contract), most, rng)
            if found is None:
                seen["none"] += 1
                self.assertGreater(told.clock[at].time(0), most)
            else:
                seen["some"] += 1
        self.assertGreater(min(seen.values()), 20)

    def test_for_heap(self):
        rng = random.Random(77)
        seen = {"none": 0, "some": 0}
        for _ in range(150):
            told = one_inlet(rng)
            at, most = rng.randrange(len(told.outlets)), rng.choice([0, 1, rng.randint(0, 9)])
            outlet = told.outlets[at]
            found = contract_for_heap(face=told, outlet=outlet, most=most)
            self.check_least(told, outlet, found, lambda contract: heap(told, outlet, contract), most, rng)
            if found is None:
                seen["none"] += 1
                self.assertEqual((most, told.clock[at].time(0) > 0), (0, True))
            else:
                seen["some"] += 1
        self.assertGreater(min(seen.values()), 20)

    def check_least(self, told, outlet, found, ask, most, rng):
        if found is not None:
            self.assertIs(is_contract(found), True)
            self.assertLessEqual(ask(found), most)
        # Any contract that is enough is nowhere below it.
        for _ in range(5):
            contract = some_contract(rng)
            enough = ask(contract)
            if enough is not None and enough <= most:
                self.assertTrue(is_at_most(found, contract))
            elif found is not None:
                self.assertFalse(is_at_most(found, contract))

    def test_told(self):
        self.assertEqual(str(contract_for_stay(ONE, "done", 5)), "| 0 + 4")
        self.assertIsNone(contract_for_stay(ONE, "done", 4))
        self.assertEqual(str(contract_for_stay(ONE, "done", 9)), "0 | 0 + 4")
        self.assertEqual(contract_for_stay(ONE, "done", 8), contract_of(Row([-3], [1], 4)))
        self.assertEqual(str(contract_for_heap(ONE, "done", 2)), "0 0 | 5 + 4")
        self.assertIsNone(contract_for_heap(ONE, "done", 0))
        self.assertEqual(str(contract_for_heap(ONE, "done", 1)), "| 0 + 5")
        same = face(House([Module("m", ["i"], ["o"], [], [("i", "o", 0, 0)])]), "m")
        self.assertEqual(contract_for_heap(same, "o", 0), unit())
        self.assertEqual(contract_for_stay(same, "o", 0), unit())
        self.assertIsNone(contract_for_stay(same, "o", -1))


class OutTest(unittest.TestCase):
    def test_by_hand(self):
        rng = random.Random(78)
        for _ in range(60):
            told, contract = one_inlet(rng), some_contract(rng)
            at = rng.randrange(len(told.outlets))
            found = contract_out(face=told, outlet=told.outlets[at], contract=contract)
            self.assertIs(is_contract(found), True)
            for _ in range(2):
                arrivals = kept_arrivals(rng, contract)
                self.assertIs(keeps(out(told, [arrivals])[at], found), True)
            # Nothing greater is kept by all: what comes T later for some T shows it.
            many, tight = 12, [None] * 12
            for late in list(range(0, 40)) + [FAR]:
                times = out_by_hand(told, [later(contract, 0, late)], 45)[at]
                for k in range(many):
                    gap = min([times[n + k] - times[n] for n in range(45 - k)])
                    tight[k] = gap if tight[k] is None else min(tight[k], gap)
            self.assertEqual(things(found, many), tight)

    def test_told(self):
        self.assertEqual(str(contract_out(ONE, "done", PAIRS)), "| 0 4 + 12")
        self.assertEqual(str(contract_out(ONE, "done", FAST)), "| 0 + 4")
        self.assertEqual(str(contract_out(ONE, "done", SLOW)), "| 0 + 6")
        # An outlet that no inlet reaches keeps what its clock keeps.
        alone = face(House([Module("m", ["i"], ["o"], ["s"], [("s", "o", 0, 9), ("s", "s", 2, 3)])]), "m")
        self.assertEqual(str(contract_out(alone, "o", SLOW)), "| 0 0 + 3")


if __name__ == "__main__":
    unittest.main()
