"""Points 100 and 101: one checker for papers of all kinds, and cheap papers."""

import ast
import pathlib
import random
import unittest

from waitworks.blames import blame, blame_holds
from waitworks.cheap import cheap_paper
from waitworks.checker import holds, ring_holds, wrong_sheets
from waitworks.errors import InvalidArrivals, InvalidLog, NeverGoes, NoPlace
from waitworks.flats import flat
from waitworks.houses import House, Module
from waitworks.lateness import late_holds, most_late
from waitworks.mends import mend_cost
from waitworks.ratepapers import rate_holds, rate_paper
from waitworks.reasons import chain, chain_holds
from waitworks.rows import Row, unit
from waitworks.runpapers import run_holds, run_paper
from waitworks.timetables import clash, clash_holds, margin_holds, margin_paper, timetable, timetable_holds, too_slow

from models import ANY_VALUES, HOUSE, busy_house, error_of, some_arrivals, some_house
from test_logs import LOG, logged_house
from test_mends import some_case, worth, balanced

PACKAGE = pathlib.Path(__file__).resolve().parent.parent / "waitworks"
RING, TABLE = (("cut", "fold", 0, 3), ("fold", "cut", 1, 1)), (("cut", 0), ("done", 5), ("fold", 3), ("order", 0))
PRICES = [2, 1, None, None]
CHEAP = (((0, 1), (1, 1)), (("cut", 0), ("done", 4), ("fold", 2), ("order", 0)), (2, 2, 0, 0))
# For each kind a question about the shop, and a paper that holds.
SHEETS = (
    ("chain", ([unit()], "done", 1), (("done", 1, 9), ("fold", 1, 7), ("cut", 1, 4), ("fold", 0, 3), ("cut", 0, 0))),
    ("run", ([unit()],), (1, 1, (("cut", 4), ("done", 4), ("fold", 4), ("order", 0)))),
    ("rate", ("cut",), (RING, (("cut", 0), ("fold", 3), ("order", 0)))),
    ("table", (5,), TABLE),
    ("margin", (5,), (RING, (("cut", 0), ("done", 12), ("fold", 7), ("order", -1)))),
    ("clash", (5, [("cut", 2)], [("done", 6)]), ("way", "cut", (("cut", "fold", 0, 3), ("fold", "done", 0, 2)))),
    ("late", (5, TABLE, "cut", 2), (("cut", 2), ("done", 2), ("fold", 2))),
    ("blame", ((LOG[0], ("done", (5, 9, 14)), LOG[2], LOG[3]),), ("late", "done", 2, (0,))),
    ("slow", (3,), RING),
    ("cheap", (2, PRICES), CHEAP),
)
ASKS = {"chain": chain_holds, "run": run_holds, "rate": rate_holds, "table": timetable_holds, "margin": margin_holds, "clash": clash_holds, "late": late_holds, "blame": blame_holds}


def other_value(rng, value):
    """A value by chance in which something is otherwise."""
    if isinstance(value, bool) or value is None:
        return rng.choice([0, 1, None, ()])
    if isinstance(value, int):
        return value + rng.choice([1, -1, 1, 2, -value])
    if isinstance(value, str):
        return rng.choice(["cut", "m", "i", "s", value + "x", "late", "way", "ring", None])
    if not value or rng.random() < 0.2:
        return rng.choice([value[:-1], value + value[-1:], value[::-1], list(value)])
    at, value = rng.randrange(len(value)), tuple(value)
    return value[:at] + (other_value(rng, value[at]),) + value[at + 1:]


def made_sheets(rng):
    """A house by chance, and papers that are made for it."""
    house = some_house(rng, lasts=3, stations=3) if rng.random() < 0.4 else busy_house(rng, lasts=3, inlets="i", more=rng.randint(0, 3), loose=0.2)
    places, links = flat(house, "m")
    arrivals, beat = some_arrivals(rng, house["m"], first=2, again=2), rng.randint(0, 5)
    sheets = [("run", (arrivals,), run_paper(house, "m", arrivals)), ("table", (beat,), timetable(house, "m", beat)), ("margin", (beat,), margin_paper(house, "m", beat)),
              ("slow", (beat,), too_slow(house, "m", beat))]
    if places:
        place, n = rng.choice(places), rng.randint(0, 9)
        wants, wishes = [(rng.choice(places), rng.randint(0, 9))], [(rng.choice(places), rng.randint(0, 5))]
        sheets += [("chain", (arrivals, place, n), chain(house, "m", arrivals, place, n)), ("rate", (place,), rate_paper(house, "m", place)),
                   ("clash", (beat, wants, wishes), clash(house, "m", beat, wants, wishes))]
        table = timetable(house, "m", beat)
        if table is not None:
            sheets.append(("late", (beat, table, place, 2), most_late(house, "m", beat, table, place, 2)))
    return house, sheets


class HoldsTest(unittest.TestCase):
    def test_as_the_functions_of_their_chapters(self):
        rng = random.Random(291)
        seen = {(kind, good): 0 for kind in ASKS for good in (True, False)}
        while min(seen.values()) < 20:
            house, sheets = made_sheets(rng)
            if rng.random() < 0.3:
                house, log = logged_house(rng)
                sheets = [("blame", (log,), blame(house, "m", log))]
            for kind, question, value in sheets:
                for _ in range(4):
                    if kind != "slow":
                        wanted = ASKS[kind](house, "m", *question, value)
                        self.assertIs(holds(house, "m", kind, question, value), wanted, (str(house), kind, question, value))
                        self.assertIs(holds(house=house, name="m", kind=kind, question=question, value=value), wanted)
                        seen[kind, wanted] += 1
                    else:
                        good = value is not None and isinstance(value, tuple) and value == too_slow(house, "m", question[0])
                        if good:
                            self.assertIs(holds(house, "m", "slow", question, value), True)
                    value = other_value(rng, value)

    def test_papers_of_the_shop(self):
        for kind, question, value in SHEETS:
            self.assertIs(holds(HOUSE, "shop", kind, question, value), True, kind)
            for other, _, _ in SHEETS:
                if other != kind:
                    self.assertIs(holds(HOUSE, "shop", other, dict([(one, asked) for one, asked, _ in SHEETS])[other], value), False, (kind, other))
            self.assertIs(holds(HOUSE, "shop", kind, question, list(value)), False)
            self.assertIs(holds(HOUSE, "shop", kind, question, value + value[-1:]), False)
            for given in ANY_VALUES:
                self.assertIs(holds(HOUSE, "shop", kind, question, given), False)
                self.assertIs(holds(HOUSE, "shop", given, question, value), False)
                for at in range(len(value)):
                    # Run papers do not begin and turn at more than 10 ** 4.
                    if (given != value[at] or isinstance(given, bool)) and (kind != "run" or given != 10 ** 15):
                        self.assertIs(holds(HOUSE, "shop", kind, question, value[:at] + (given,) + value[at + 1:]), False)
        for kind in ("", "chains", "Chain", "tables", "cuts"):
            self.assertIs(holds(HOUSE, "shop", kind, (5,), TABLE), False)

    def test_slow(self):
        self.assertIs(holds(HOUSE, "shop", "slow", (3,), RING[::-1]), True)
        self.assertIs(holds(HOUSE, "shop", "slow", (4,), RING), False)
        for value in (RING[:1], RING + RING, (), (("cut", "fold", 0, 3), ("fold", "cut", 1, 2)), (list(RING[0]), RING[1]), ("ring", RING)):
            self.assertIs(holds(HOUSE, "shop", "slow", (3,), value), False)

    def test_runs_far_out(self):
        growths = (("cut", 4 * 10 ** 4), ("done", 4 * 10 ** 4), ("fold", 4 * 10 ** 4), ("order", 0))
        self.assertIs(holds(HOUSE, "shop", "run", ([unit()],), (10 ** 4, 10 ** 4, growths)), True)
        self.assertIs(holds(HOUSE, "shop", "run", ([unit()],), (10 ** 4, 10 ** 4, (*growths[:3], ("order", 1)))), False)

    def test_errors(self):
        for value in ANY_VALUES:
            if value != "shop":
                self.assertIs(error_of(self, NoPlace, holds, HOUSE, value, None, None, None).name, value)
                self.assertIs(error_of(self, NoPlace, wrong_sheets, HOUSE, value, []).name, value)
            if value not in ([Row((), (0,))],):
                self.assertEqual(error_of(self, InvalidArrivals, holds, HOUSE, "shop", "chain", (value, None, 0), None).at, 0)
                self.assertEqual(error_of(self, InvalidArrivals, holds, HOUSE, "shop", "run", (value,), None).at, 0)
            self.assertEqual(error_of(self, InvalidLog, holds, HOUSE, "shop", "blame", (value,), None).at, 0)
            if value not in ("order", "cut"):
                for kind, question in (("chain", ([unit()], value, 0)), ("rate", (value,)), ("late", (5, TABLE, value, 1)), ("clash", (5, [(value, 1)], [])), ("clash", (5, [], [("cut", 1), (value, 1)]))):
                    self.assertIs(error_of(self, NoPlace, holds, HOUSE, "shop", kind, question, None).name, value)
                    error_of(self, NoPlace, wrong_sheets, HOUSE, "shop", [(kind, question, None)])

    def test_wrong_sheets(self):
        sheets = [("table", (5,), TABLE), ("table", (3,), TABLE), ("slow", (3,), RING), ("rate", ("cut",), SHEETS[2][2])]
        self.assertEqual(wrong_sheets(house=HOUSE, name="shop", sheets=sheets), (1,))
        self.assertEqual((wrong_sheets(HOUSE, "shop", ()), wrong_sheets(HOUSE, "shop", SHEETS)), ((), ()))
        some = [(value, None, None) for value in ANY_VALUES]
        self.assertEqual(wrong_sheets(HOUSE, "shop", some), tuple(range(len(some))))
        self.assertEqual(wrong_sheets(HOUSE, "shop", [*SHEETS[:2], ("chain", SHEETS[0][1], SHEETS[0][2][:4]), *SHEETS, ("x", (), ())]), (2, 13))

    def test_it_asks_nothing_of_what_makes_papers(self):
        waiting, asked = ["checker"], set()
        while waiting:
            stem = waiting.pop()
            if stem not in asked:
                asked.add(stem)
                for node in ast.parse((PACKAGE / (stem + ".py")).read_text()).body:
                    if isinstance(node, ast.ImportFrom) and node.module.startswith("waitworks."):
                        waiting.append(node.module.partition(".")[2])
        self.assertLessEqual(asked, {"checker", "checks", "errors", "flattening", "kinds", "papers", "paths", "rows", "walking"})


class CheapTest(unittest.TestCase):
    def test_papers_that_are_made(self):
        rng = random.Random(292)
        seen = {"none": 0, "free": 0, "costs": 0, True: 0, False: 0}
        while min(seen.values()) < 25:
            house, places, links, prices = some_case(rng)
            beat = rng.choice([0, 1, 1, 2])
            paper = cheap_paper(house=house, name="m", beat=beat, prices=prices)
            cost = mend_cost(house, "m", beat, prices)
            if cost is None:
                seen["none"] += 1
                self.assertIsNone(paper)
                continue
            seen["costs" if cost else "free"] += 1
            self.assertIsInstance(paper, tuple)
            cuts, table, flow = paper
            self.assertEqual(sum([prices[at] * cut for at, cut in cuts]), cost)
            self.assertEqual(worth(links, beat, prices, flow), cost)
            self.assertIs(holds(house, "m", "cheap", (beat, prices), paper), True)
            self.assertIs(holds(house, "m", "cheap", (beat, tuple(prices)), paper), True)
            for _ in range(4):
                value = other_value(rng, paper)
                wanted = self.is_cheap(places, links, beat, prices, value)
                self.assertIs(holds(house, "m", "cheap", (beat, prices), value), wanted)
                seen[wanted] += 1

    def is_cheap(self, places, links, beat, prices, value):
        """The words of the document, with any form refused that is not theirs."""
        try:
            cuts, table, flow = value
            times, less = dict(table), dict(cuts)
            good = all([isinstance(some, tuple) for some in (value, cuts, table, flow, *cuts, *table)]) and [place for place, _ in table] == list(places)
            numbers = list(times.values()) + list(flow) + list(less) + list(less.values())
            good = good and all([isinstance(number, int) and not isinstance(number, bool) and number >= 0 for number in numbers]) and len(flow) == len(links)
            good = good and sorted(less) == [at for at, _ in cuts] and all([1 <= cut <= links[at][3] and prices[at] is not None for at, cut in cuts])
            short = [(*link[:3], link[3] - less.get(at, 0)) for at, link in enumerate(links)]
            good = good and all([times[then] + beat * marks >= times[first] + lasts for first, then, marks, lasts in short])
            return good and balanced(places, links, flow) and worth(links, beat, prices, flow) == sum([prices[at] * cut for at, cut in cuts])
        except (TypeError, ValueError, IndexError, KeyError):
            return False

    def test_any_values(self):
        self.assertIs(holds(HOUSE, "shop", "cheap", (2, PRICES), CHEAP), True)
        cuts, table, flow = CHEAP
        for value in ((((0, 3), (1, 1)), table, flow), (((0, 1),), table, flow), (cuts[::-1], table, flow), (cuts, TABLE[:3], flow), (cuts, (("cut", 0), ("done", 3), ("fold", 2), ("order", 0)), flow),
                      (cuts, table, (1, 1, 0, 0)), (cuts, table, (2, 2, 0)), (cuts, table, (2, 2, 0, False)), (cuts, table), (cuts, table, flow, ()), [cuts, table, flow],
                      (((0, 1), (2, 1)), table, flow), (cuts, (("cut", -1), ("done", 4), ("fold", 1), ("order", -1)), flow)):
            self.assertIs(holds(HOUSE, "shop", "cheap", (2, PRICES), value), False)
        self.assertIs(holds(HOUSE, "shop", "cheap", (2, PRICES), (cuts, TABLE, flow)), False)
        self.assertIs(holds(HOUSE, "shop", "cheap", (4, PRICES), ((), TABLE, (0, 0, 0, 0))), True)
        self.assertIs(holds(HOUSE, "shop", "cheap", (3, PRICES), ((), TABLE, (0, 0, 0, 0))), False)
        for value in ANY_VALUES:
            if value != "shop":
                self.assertIs(error_of(self, NoPlace, cheap_paper, HOUSE, value, 3, PRICES).name, value)


class RingTest(unittest.TestCase):
    def test_by_hand(self):
        rng = random.Random(293)
        seen = {"never": 0, True: 0, False: 0}
        while min(seen.values()) < 30:
            names = "stuv"[:rng.randint(1, 4)]
            links = [(rng.choice(names), rng.choice(names), rng.choice([0, 0, 1]), 1) for _ in range(rng.randint(1, 7))]
            module = Module("m", [], [], list(names), links)
            pairs = {link[:2] for link in links if link[2] == 0}
            try:
                House([module])
                ring = None
            except NeverGoes as error:
                ring = error.ring
                seen["never"] += 1
                self.assertIs(ring_holds(modules=[module], name="m", value=ring), True)
            for _ in range(6):
                value = tuple([rng.choice(names) for _ in range(rng.randint(0, 4))])
                if ring is not None and rng.random() < 0.5:
                    value = rng.choice([ring[1:] + ring[:1], ring + ring, ring[:-1], ring])
                wanted = len(value) > 0 and len(set(value)) == len(value) and value[0] == min(value) and all([pair in pairs for pair in zip(value, value[1:] + value[:1])])
                self.assertIs(ring_holds([module], "m", value), wanted)
                seen[wanted] += 1

    def test_led_along(self):
        inner = Module("x", ["a"], ["b"], ["s", "t"], [("a", "b", 0, 3), ("s", "t", 0, 1), ("t", "s", 0, 0)])
        outer = Module("m", [], [], ["u"], [("c.b", "u", 0, 1), ("u", "c.a", 0, 0)], [("c", "x")])
        modules = (inner, outer)
        for value in (("c.a", "c.b", "u"), ("c.s", "c.t")):
            self.assertIs(ring_holds(modules, "m", value), True)
        for value in (("c.b", "u", "c.a"), ("c.a", "c.b"), ("s", "t"), ("c.t", "c.s"), ["c.s", "c.t"], ("c.s", "c.t", "c.s"), (), ("c.s",), ("c.s", "x")):
            self.assertIs(ring_holds(list(modules), "m", value), False)
        self.assertIs(ring_holds(modules, "x", ("s", "t")), True)
        for value in ANY_VALUES:
            self.assertIs(ring_holds(modules, "m", value), False)
            self.assertIs(ring_holds(modules, "m", ("c.s", value)), False)
            self.assertIs(error_of(self, NoPlace, ring_holds, modules, value, None).name, value)
        self.assertIs(error_of(self, NoPlace, ring_holds, [], "m", ("s",)).name, "m")
        self.assertIs(ring_holds([Module("a", [], [], ["x", "y"], [("x", "y", 0, 1), ("y", "x", 0, 0)])], "a", ("x", "y")), True)


if __name__ == "__main__":
    unittest.main()
