"""The interface, and points 1 to 3 as they hold for all of it: names, arguments, what is passed and returned."""

import importlib
import inspect
import unittest

from waitworks import errors
from waitworks.counts import Tally, least_of, merged, tally, together
from waitworks.crowds import counts_at, holds_up, most_on_links
from waitworks.faces import Face, face, face_with, out
from waitworks.flats import asked, cut_out, flat, levels, written, written_out
from waitworks.heaps import heaps, longest_stay, turn_of, within
from waitworks.houses import House, Module
from waitworks.lateness import late_goings, late_way, most_late, spares
from waitworks.latest import late_reason, latest, latest_goings, spare_arrival
from waitworks.lates import late_run, made_good, touched
from waitworks.partings import late_by, parting
from waitworks.partners import greatest_difference, partner
from waitworks.ratepapers import rate_paper
from waitworks.rates import binding, paces, slow_ring
from waitworks.reasons import chain
from waitworks.rooms import least_inner_room, least_room, room, roomed
from waitworks.rows import Row, first_above, is_at_most, later, unit
from waitworks.runpapers import run_paper
from waitworks.runs import run
from waitworks.slacks import tight
from waitworks.standins import parting_under
from waitworks.sums import behind, greatest, least, star
from waitworks.timetables import clash, latest_times, margin_paper, slowest, span, timetable

from models import HOUSE, SHOP

ONE = face(HOUSE, "shop")

PLACE = ("house", "name", "place")
RUN = ("house", "name", "arrivals")
WISHES = ("face", "wishes")
OUTLET = ("face", "outlet", "contract")
BACK = ("face", "outlet", "inlet")
ENDS = ("house", "name", "first", "then")
COMES = ("comes", "goes")
BEAT = ("house", "name", "beat")
TABLE = (*BEAT, "table")
LOG = ("house", "name", "log")
MENU = ("house", "name", "menu")
FUNCTIONS = {
    "rows": {"unit": (), "empty": (), "later": ("row", "marks", "lasts"), "first_above": ("one", "other"), "is_at_most": ("one", "other")},
    "sums": {"greatest": ("rows",), "least": ("rows",), "behind": ("one", "other"), "star": ("row",)},
    "partners": {"partner": ("wish", "row"), "greatest_difference": ("one", "other")},
    "flats": {
        "flat": ("house", "name"), "written": PLACE, "asked": ("house", "name"), "levels": ("house", "name"),
        "written_out": ("house", "name", "new"), "cut_out": ("module", "stations", "name", "label"),
    },
    "runpapers": {"run_paper": RUN, "run_holds": (*RUN, "value")},
    "runs": {"run": RUN, "going": (*RUN, "place", "n")},
    "reasons": {"chain": (*RUN, "place", "n"), "chain_holds": (*RUN, "place", "n", "value")},
    "rates": {"rate": PLACE, "slow_ring": PLACE, "binding": PLACE, "room_for": (*PLACE, "at"), "paces": ("house", "name")},
    "ratepapers": {"rate_paper": PLACE, "rate_holds": (*PLACE, "value")},
    "lates": {
        "late_run": (*RUN, "lates"), "touched": (*RUN, "lates"), "made_good": (*RUN, "lates", "place"), "how_late": (*RUN, "lates", "place"),
    },
    "slacks": {
        "near_spare": (*RUN, "place", "n", "other"), "far_spare": (*RUN, "place", "n", "other"), "slack": (*RUN, "at"), "tight": RUN,
    },
    "faces": {
        "face": ("house", "name"), "face_with": ("house", "name", "faces"), "out": ("face", "arrivals"), "in_row": ("one", "other"),
    },
    "partings": {
        "parting": ("one", "other"), "parting_holds": ("one", "other", "value"), "never_later": ("one", "other"), "late_by": ("one", "other"),
    },
    "latest": {
        "can_keep": WISHES, "latest": WISHES, "in_time": (*WISHES, "arrivals"), "first_late": (*WISHES, "arrivals"), "least_delay": WISHES,
        "spare_arrival": (*WISHES, "arrivals", "name", "n"), "latest_goings": WISHES, "late_reason": (*WISHES, "name", "n"),
        "late_reason_holds": (*WISHES, "name", "n", "value"),
    },
    "contracts": {
        "is_contract": ("value",), "contract_of": ("row",), "keeps": ("row", "contract"), "stay": OUTLET, "stay_going": OUTLET, "heap": OUTLET,
        "contract_out": OUTLET, "contract_for_stay": ("face", "outlet", "most"), "contract_for_heap": ("face", "outlet", "most"),
    },
    "standins": {
        "parting_under": ("one", "other", "contract"), "alike_under": ("one", "other", "contract"),
        "parting_under_holds": ("one", "other", "contract", "value"), "stand_in": ("face", "contract"),
    },
    "ways": {"way_back": BACK, "keeps_face": (*BACK, "row"), "closed": (*BACK, "row")},
    "rooms": {
        "room": ("marks", "lasts"), "least_room": (*BACK, "lasts"), "sure_row": ENDS, "least_inner_room": (*ENDS, "lasts"),
        "roomed": ("house", "name", "label", "outlet", "inlet", "marks", "lasts"),
    },
    "counts": {
        "endless": (), "tally": ("row",), "goings": ("counts",), "together": ("tallies",), "merged": ("rows",), "least_of": ("tallies",),
        "most_of": ("tallies",), "shifted": ("counts", "marks", "lasts"), "tally_behind": ("one", "other"), "is_at_least": ("one", "other"),
    },
    "heaps": {
        "heaps": COMES, "within": (*COMES, "time"), "stay_of": (*COMES, "n"), "longest_stay": COMES, "shortest_stay": COMES, "turn_of": COMES,
        "mean_heap": COMES, "mean_stay": COMES,
    },
    "crowds": {
        "counts_at": (*RUN, "time"), "on_link": (*RUN, "at"), "under_way": (*RUN, "at"), "waiting": (*RUN, "at"), "most_on_links": RUN,
        "holds_up": (*RUN, "place", "time"),
    },
    "timetables": {
        "least_round": ("house", "name"), "slowest": ("house", "name"), "too_slow": BEAT, "timetable": (*BEAT, "wants"), "spared": (*BEAT, "more"),
        "timetable_holds": (*BEAT, "value"), "clash": (*BEAT, "wants", "wishes"), "clash_holds": (*BEAT, "wants", "wishes", "value"),
        "latest_times": (*BEAT, "wishes"), "span": (*BEAT, "one", "other"), "margin": BEAT, "margin_paper": BEAT, "margin_holds": (*BEAT, "value"),
    },
    "lateness": {
        "spares": TABLE, "unspared": TABLE, "late_goings": (*TABLE, "lates"), "most_late": (*TABLE, "place", "d"), "gone_after": (*TABLE, "place", "d"),
        "unharmed": (*TABLE, "place", "other"), "stays": TABLE, "late_way": (*TABLE, "place", "d", "other"), "late_holds": (*TABLE, "place", "d", "value"),
    },
    "flows": {"flow": (*BEAT, "prices"), "flow_holds": (*BEAT, "prices", "value")},
    "mends": {
        "hindrance": (*BEAT, "prices"), "mend": (*BEAT, "prices"), "mend_cost": (*BEAT, "prices"), "mend_holds": (*BEAT, "prices", "value"),
        "mended": ("house", "name", "cuts"), "mend_costs": ("house", "name", "prices"), "best_beat": ("house", "name", "prices", "money"),
        "cut_spans": (*BEAT, "prices"),
    },
    "logs": {"log_of": (*RUN, "many"), "told_back": LOG, "explained": LOG, "explains": (*LOG, "lasts"), "sure": LOG},
    "blames": {"blame": LOG, "blame_holds": (*LOG, "value"), "spans_clash": ("house", "name", "spans", "log")},
    "choices": {
        "choices": MENU, "price": (*MENU, "choice"), "chosen": (*MENU, "choice"), "chosen_face": (*MENU, "choice"), "is_faster": ("one", "other"),
        "meets": ("one", "goals"), "cheapest": (*MENU, "goals"), "fastest": (*MENU, "price"), "refutation": (*MENU, "goals", "choice"),
        "refutation_holds": (*MENU, "goals", "choice", "value"), "bar": (*MENU, "goals", "price"), "bar_holds": (*MENU, "goals", "price", "value"),
    },
    "tidy": {
        "needless": ("module",), "link_parting": ("module", "at"), "link_parting_holds": ("module", "at", "value"), "groups": ("module",),
    },
    "cleaning": {
        "stepped": ("module", "steps"), "tidy_steps": ("module",), "is_tidy": ("module",), "steps_hold": ("module", "value"), "tidied": ("module",),
    },
    "exchange": {"swaps": ("house", "name"), "first_change": ("one", "other"), "can_change": ("one", "other"), "made_of": ("wanted", "name")},
    "checker": {
        "holds": ("house", "name", "kind", "question", "value"), "wrong_sheets": ("house", "name", "sheets"), "ring_holds": ("modules", "name", "value"),
    },
    "cheap": {"cheap_paper": (*BEAT, "prices")},
}
CLASSES = {
    ("rows", "Row"): {"__init__": ("self", "first", "again", "more"), "read": ("text",), "time": ("self", "n"), "count": ("self", "time"),
                      "rate": None, "__eq__": None, "__str__": None},
    ("houses", "Module"): {"__init__": ("self", "name", "inlets", "outlets", "stations", "links", "calls"), "read": ("text",),
                           "__eq__": None, "__str__": None},
    ("houses", "House"): {"__init__": ("self", "modules"), "read": ("text",), "with_module": ("self", "module"), "without": ("self", "name"),
                          "names": None, "__len__": None, "__eq__": None, "__str__": None, "__getitem__": None},
    ("faces", "Face"): {"__eq__": None},
    ("counts", "Tally"): {"__init__": ("self", "under", "first", "again", "turn", "more"), "by": ("self", "time"), "rate": None, "__eq__": None},
    ("works", "Works"): {"__init__": ("self", "house"), "put": ("self", "module"), "drop": ("self", "name"), "link": ("self", "name", "link"),
                         "cut": ("self", "name", "link"), "face": ("self", "name"), "alike": ("self", "many"), "undo": ("self",),
                         "within": ("self", "work"), "__len__": None},
    ("days", "Day"): {"__init__": ("self", "house", "name"), "come": ("self", "inlet", "time"), "several": ("self", "some"), "sure": ("self", "place"),
                      "earliest": ("self", "place", "n"), "time": ("self", "place", "n"), "can_keep": ("self", "wishes"), "late": ("self", "wishes"),
                      "due": ("self", "inlet", "wishes"), "undo": ("self",), "within": ("self", "work"), "__len__": None},
    ("desk", "Desk"): {"__init__": ("self",), "say": ("self", "command")},
    ("heaps", "Heap"): {"by": ("self", "time"), "most": ("self",), "fewest": ("self",), "total": ("self", "time", "many"), "__eq__": None},
}


class InterfaceTest(unittest.TestCase):
    def test_functions(self):
        for word, functions in FUNCTIONS.items():
            module = importlib.import_module("waitworks." + word)
            for name, parameters in functions.items():
                function = getattr(module, name)
                self.assertEqual(function.__module__, module.__name__)
                self.assertEqual(tuple(inspect.signature(function).parameters), parameters, name)

    def test_classes(self):
        for (word, name), methods in CLASSES.items():
            made = getattr(importlib.import_module("waitworks." + word), name)
            self.assertEqual(made.__module__, "waitworks." + word)
            for method, parameters in methods.items():
                self.assertIn(method, vars(made))
                if method == "read":
                    self.assertEqual(tuple(inspect.signature(made.read).parameters), parameters)
                elif parameters is not None:
                    self.assertEqual(tuple(inspect.signature(vars(made)[method]).parameters), parameters)
            for method in ("rate", "names"):
                if method in methods:
                    self.assertIsInstance(vars(made)[method], property)

    def test_defaults(self):
        self.assertEqual(inspect.signature(Row).parameters["more"].default, 0)
        self.assertEqual(inspect.signature(Module).parameters["calls"].default, ())
        for ask in (room, roomed, least_room, least_inner_room):
            self.assertEqual(inspect.signature(ask).parameters["lasts"].default, 0)
        self.assertEqual(inspect.signature(timetable).parameters["wants"].default, ())

    def test_errors_are_defined_there(self):
        for name in ("WaitError", "InvalidRow", "InvalidModule", "InvalidHouse", "InvalidText", "NeverGoes", "InvalidArrivals", "InvalidWishes", "InvalidContract", "InvalidLog",
                     "InvalidCommand", "InvalidMenu", "InvalidChoice", "InvalidGoals", "InvalidTally", "Refused", "NoPlace"):
            self.assertEqual(getattr(errors, name).__module__, "waitworks.errors")


class PassedTest(unittest.TestCase):
    def test_lists_and_tuples_are_alike_and_stay(self):
        rows, stations, lates, arrivals = [unit(), Row([1], [4], 2)], ["fold", "cut"], [("cut", 1, 2), ("order", 0, 1)], [Row([], [0], 5)]
        for ask, some in (
            (greatest, rows), (least, rows), (lambda some: [str(one) for one in cut_out(SHOP, some, "late", "c")], stations),
            (lambda some: run(HOUSE, "shop", some), arrivals), (lambda some: run_paper(HOUSE, "shop", some), arrivals),
            (lambda some: chain(HOUSE, "shop", some, "done", 3), arrivals), (lambda some: late_run(HOUSE, "shop", arrivals, some), lates),
            (lambda some: touched(HOUSE, "shop", tuple(arrivals), some), lates),
            (lambda some: made_good(HOUSE, "shop", arrivals, some, "cut"), lates), (lambda some: House(some).modules, [SHOP]),
            (lambda some: out(ONE, some), arrivals), (lambda some: tight(HOUSE, "shop", some), arrivals), (lambda some: latest(ONE, some), arrivals),
            (lambda some: face_with(HOUSE, "two", some), [("a", ONE)]), (lambda some: spare_arrival(ONE, [Row([], [20], 9)], some, "order", 3), arrivals),
            (lambda some: merged(some), rows), (lambda some: together(some), [tally(rows[1])] * 2), (lambda some: least_of(some), [tally(rows[1])]),
            (lambda some: most_on_links(HOUSE, "shop", some), arrivals), (lambda some: timetable(HOUSE, "shop", 4, some), [("cut", 3)]),
            (lambda some: latest_times(HOUSE, "shop", 4, some), [("done", 9)]), (lambda some: latest_goings(ONE, [some]), [9, 20, 30]),
            (lambda some: late_goings(HOUSE, "shop", 5, timetable(HOUSE, "shop", 5), some), lates), (lambda some: Tally(0, some, [(9, 9)], 1, 1), [(1, 2)]),
            (lambda some: Tally(0, [(1, 2)], some, 5, 5), [(3, 4), (5, 6)]),
        ):
            kept = list(some)
            found = ask(some)
            self.assertEqual(some, kept)
            self.assertEqual(ask(tuple(some)), found)
            self.assertEqual(ask(some), found)

    def test_objects_stay(self):
        row, other = Row([0, 2], [5, 6], 4), Row([None], [1, 1], 3)
        texts = [str(row), str(other), str(HOUSE)]
        for ask in (behind, partner, first_above, is_at_most, greatest_difference):
            ask(row, other)
            ask(other, row)
        star(row)
        later(row, 3, 4)
        for ask in (flat, asked, levels, paces):
            ask(HOUSE, "two")
        HOUSE.with_module(Module("x", [], [], [], []))
        HOUSE.without("two")
        self.assertEqual([str(row), str(other), str(HOUSE)], texts)

    def check_tuples(self, thing):
        self.assertNotIsInstance(thing, (list, dict, set))
        if isinstance(thing, tuple):
            for inner in thing:
                self.check_tuples(inner)
        elif isinstance(thing, Row):
            self.check_tuples((thing.first, thing.again))
        elif isinstance(thing, Face):
            self.check_tuples((thing.inlets, thing.outlets, thing.rows, thing.clock))
        elif isinstance(thing, Module):
            self.check_tuples((thing.inlets, thing.outlets, thing.stations, thing.links, thing.calls))

    def test_tuples_are_returned(self):
        module = Module("m", ["i"], ["o"], ["s"], [("i", "s", 0, 1), ("s", "o", 0, 1), ("s", "s", 1, 2)], [("c", "shop")])
        house, arrivals = House([SHOP, module]), [Row([1], [4, 5], 6)]
        for thing in (
            module, house.modules, house.names, flat(house, "m"), written(house, "m", "c.cut"), asked(house, "m"), levels(house, "m"),
            written_out(house, "m", "n"), cut_out(module, ["s"], "n", "d"), run(house, "m", arrivals), run_paper(house, "m", arrivals),
            chain(house, "m", arrivals, "o", 5), slow_ring(house, "m", "o"), binding(house, "m", "o"), paces(house, "m"),
            tight(house, "m", arrivals), parting(face(house, "m"), face(House([Module("m", ["i"], ["o"], [], [])]), "m")),
            late_by(face(house, "m"), face(house, "m")), latest(ONE, [Row([], [20], 9)]), latest_goings(ONE, [[9]]), out(ONE, arrivals),
            late_reason(ONE, [Row([], [20], 9)], "order", 3), parting_under(ONE, face(House([Module("shop", ["order"], ["done"], [], [])]), "shop"), unit()),
            tally(arrivals[0]).first, tally(arrivals[0]).again, tally(arrivals[0]).rate, heaps(arrivals[0], arrivals[0]).first, within(unit(), unit(), 0),
            longest_stay(unit(), unit()), turn_of(arrivals[0], arrivals[0]), most_on_links(house, "m", arrivals), counts_at(house, "m", arrivals, 3),
            holds_up(house, "m", arrivals, "o", 3), slowest(house, "m"), timetable(house, "m", 9), latest_times(house, "m", 9, [("o", 99)]),
            clash(house, "m", 1, [], []), clash(house, "m", 9, [("s", 9)], [("o", 1)]), span(house, "m", 9, "s", "o"), margin_paper(house, "m", 9),
            spares(house, "m", 9, timetable(house, "m", 9)), late_goings(house, "m", 9, timetable(house, "m", 9), [("s", 1, 20)]),
            most_late(house, "m", 9, timetable(house, "m", 9), "s", 2), late_way(house, "m", 9, timetable(house, "m", 9), "s", 2, "o"),
            rate_paper(house, "m", "o"), late_run(house, "m", arrivals, [("s", 2, 5)]), touched(house, "m", arrivals, [("s", 2, 5)]),
            Row([1], [4, 5], 6).rate, ONE,
        ):
            self.assertIsInstance(thing, (tuple, Module, Face))
            self.check_tuples(thing)


if __name__ == "__main__":
    unittest.main()
