"""The interface, and points 1 to 3 as they hold for all of it: names, arguments, what is passed and returned."""

import importlib
import inspect
import unittest

from waitworks import errors
from waitworks.flats import asked, cut_out, flat, levels, written, written_out
from waitworks.houses import House, Module
from waitworks.lates import late_run, made_good, touched
from waitworks.partners import greatest_difference, partner
from waitworks.ratepapers import rate_paper
from waitworks.rates import binding, paces, slow_ring
from waitworks.reasons import chain
from waitworks.rows import Row, first_above, is_at_most, later, unit
from waitworks.runpapers import run_paper
from waitworks.runs import run
from waitworks.sums import behind, greatest, least, star

from models import HOUSE, SHOP

PLACE = ("house", "name", "place")
RUN = ("house", "name", "arrivals")
FUNCTIONS = {
    "rows": {"unit": (), "empty": (), "later": ("row", "marks", "lasts"), "first_above": ("one", "other"), "is_at_most": ("one", "other")},
    "sums": {"greatest": ("rows",), "least": ("rows",), "behind": ("one", "other"), "star": ("row",)},
    "partners": {"partner": ("wish", "row"), "greatest_difference": ("one", "other")},
    "flats": {
        "flat": ("house", "name"), "written": PLACE, "asked": ("house", "name"), "levels": ("house", "name"),
        "written_out": ("house", "name", "new"), "cut_out": ("module", "stations", "name", "label"),
    },
    "runpapers": {"run_paper": RUN, "run_holds": (*RUN, "value")},
    "runs": {"run": RUN, "going": (*RUN, "place", "n")},
    "reasons": {"chain": (*RUN, "place", "n"), "chain_holds": (*RUN, "place", "n", "value")},
    "rates": {"rate": PLACE, "slow_ring": PLACE, "binding": PLACE, "room_for": (*PLACE, "at"), "paces": ("house", "name")},
    "ratepapers": {"rate_paper": PLACE, "rate_holds": (*PLACE, "value")},
    "lates": {
        "late_run": (*RUN, "lates"), "touched": (*RUN, "lates"), "made_good": (*RUN, "lates", "place"), "how_late": (*RUN, "lates", "place"),
    },
}
CLASSES = {
    ("rows", "Row"): {"__init__": ("self", "first", "again", "more"), "read": ("text",), "time": ("self", "n"), "count": ("self", "time"),
                      "rate": None, "__eq__": None, "__str__": None},
    ("houses", "Module"): {"__init__": ("self", "name", "inlets", "outlets", "stations", "links", "calls"), "read": ("text",),
                           "__eq__": None, "__str__": None},
    ("houses", "House"): {"__init__": ("self", "modules"), "read": ("text",), "with_module": ("self", "module"), "without": ("self", "name"),
                          "names": None, "__len__": None, "__eq__": None, "__str__": None, "__getitem__": None},
}


class InterfaceTest(unittest.TestCase):
    def test_functions(self):
        for word, functions in FUNCTIONS.items():
            module = importlib.import_module("waitworks." + word)
            for name, parameters in functions.items():
                function = getattr(module, name)
                self.assertEqual(function.__module__, module.__name__)
                self.assertEqual(tuple(inspect.signature(function).parameters), parameters, name)

    def test_classes(self):
        for (word, name), methods in CLASSES.items():
            made = getattr(importlib.import_module("waitworks." + word), name)
            self.assertEqual(made.__module__, "waitworks." + word)
            for method, parameters in methods.items():
                self.assertIn(method, vars(made))
                if method == "read":
                    self.assertEqual(tuple(inspect.signature(made.read).parameters), parameters)
                elif parameters is not None:
                    self.assertEqual(tuple(inspect.signature(vars(made)[method]).parameters), parameters)
            for method in ("rate", "names"):
                if method in methods:
                    self.assertIsInstance(vars(made)[method], property)

    def test_defaults(self):
        self.assertEqual(inspect.signature(Row).parameters["more"].default, 0)
        self.assertEqual(inspect.signature(Module).parameters["calls"].default, ())

    def test_errors_are_defined_there(self):
        for name in ("WaitError", "InvalidRow", "InvalidContract", "NoPlace", "Refused"):
            self.assertEqual(getattr(errors, name).__module__, "waitworks.errors")


class PassedTest(unittest.TestCase):
    def test_lists_and_tuples_are_alike_and_stay(self):
        rows, stations, lates, arrivals = [unit(), Row([1], [4], 2)], ["fold", "cut"], [("cut", 1, 2), ("order", 0, 1)], [Row([], [0], 5)]
        for ask, some in (
            (greatest, rows), (least, rows), (lambda some: [str(one) for one in cut_out(SHOP, some, "late", "c")], stations),
            (lambda some: run(HOUSE, "shop", some), arrivals), (lambda some: run_paper(HOUSE, "shop", some), arrivals),
            (lambda some: chain(HOUSE, "shop", some, "done", 3), arrivals), (lambda some: late_run(HOUSE, "shop", arrivals, some), lates),
            (lambda some: touched(HOUSE, "shop", tuple(arrivals), some), lates),
            (lambda some: made_good(HOUSE, "shop", arrivals, some, "cut"), lates), (lambda some: House(some).modules, [SHOP]),
        ):
            kept = list(some)
            found = ask(some)
            self.assertEqual(some, kept)
            self.assertEqual(ask(tuple(some)), found)
            self.assertEqual(ask(some), found)

    def test_objects_stay(self):
        row, other = Row([0, 2], [5, 6], 4), Row([None], [1, 1], 3)
        texts = [str(row), str(other), str(HOUSE)]
        for ask in (behind, partner, first_above, is_at_most, greatest_difference):
            ask(row, other)
            ask(other, row)
        star(row)
        later(row, 3, 4)
        for ask in (flat, asked, levels, paces):
            ask(HOUSE, "two")
        HOUSE.with_module(Module("x", [], [], [], []))
        HOUSE.without("two")
        self.assertEqual([str(row), str(other), str(HOUSE)], texts)

    def check_tuples(self, thing):
        self.assertNotIsInstance(thing, (list, dict, set))
        if isinstance(thing, tuple):
            for inner in thing:
                self.check_tuples(inner)
        elif isinstance(thing, Row):
            self.check_tuples((thing.first, thing.again))
        elif isinstance(thing, Module):
            self.check_tuples((thing.inlets, thing.outlets, thing.stations, thing.links, thing.calls))

    def test_tuples_are_returned(self):
        module = Module("m", ["i"], ["o"], ["s"], [("i", "s", 0, 1), ("s", "o", 0, 1), ("s", "s", 1, 2)], [("c", "shop")])
        house, arrivals = House([SHOP, module]), [Row([1], [4, 5], 6)]
        for thing in (
            module, house.modules, house.names, flat(house, "m"), written(house, "m", "c.cut"), asked(house, "m"), levels(house, "m"),
            written_out(house, "m", "n"), cut_out(module, ["s"], "n", "d"), run(house, "m", arrivals), run_paper(house, "m", arrivals),
            chain(house, "m", arrivals, "o", 5), slow_ring(house, "m", "o"), binding(house, "m", "o"), paces(house, "m"),
            rate_paper(house, "m", "o"), late_run(house, "m", arrivals, [("s", 2, 5)]), touched(house, "m", arrivals, [("s", 2, 5)]),
            Row([1], [4, 5], 6).rate,
        ):
            self.assertIsInstance(thing, (tuple, Module))
            self.check_tuples(thing)


if __name__ == "__main__":
    unittest.main()
