"""Point 2 over the whole interface: each function and method is called by the names of the document, in another order."""

import importlib
import unittest

from waitworks.counts import Tally, tally
from waitworks.days import Day
from waitworks.desk import Desk
from waitworks.faces import face
from waitworks.flows import flow
from waitworks.heaps import Heap, heaps
from waitworks.houses import House, Module
from waitworks.rows import Row, empty, unit
from waitworks.runpapers import run_paper
from waitworks.timetables import margin_paper, timetable
from waitworks.works import Works

from models import HOUSE, SHOP
from test_checker import CHEAP, PRICES, TABLE
from test_choices import GOALS, MENU, WIDE
from test_cleaning import WIDE as LOOK
from test_interface import CLASSES, FUNCTIONS
from test_logs import LOG

ONE, LATE, ROW = face(HOUSE, "shop"), face(House([Module("shop", ["order"], ["done"], [], [("order", "done", 0, 9)])]), "shop"), Row([0, 2], [5, 6], 4)
SLOW, SOON = Row([], [0], 6), Row([], [20], 6)
PLACES = {"house": HOUSE, "name": "shop"}
ARRIVALS = {**PLACES, "arrivals": [Row([], [0], 5)]}
BEAT = {**PLACES, "beat": 5}
FACES = {"one": ONE, "other": LATE}
KEPT = {"face": ONE, "wishes": [SOON]}
UNDER = {"face": ONE, "outlet": "done", "contract": SLOW}
BACK = {"face": ONE, "outlet": "done", "inlet": "order"}
CHOSEN = {"house": WIDE, "name": "two", "menu": MENU}
TWO = {"one": ROW, "other": unit()}
TALLIES = {"one": tally(ROW), "other": tally(SLOW)}
THINGS = {"comes": SLOW, "goes": SOON}
MENDED = {**BEAT, "beat": 3, "prices": PRICES}
LATES = {**ARRIVALS, "lates": [("cut", 1, 2)]}
TABLES = {**BEAT, "table": TABLE}
# For each function what it is asked, in the order of the document; for those without arguments nothing.
CALLS = {
    "rows": {"unit": {}, "empty": {}, "later": {"row": ROW, "marks": 2, "lasts": 3}, "first_above": TWO, "is_at_most": TWO},
    "sums": {"greatest": {"rows": [ROW, unit()]}, "least": {"rows": [ROW, unit()]}, "behind": {"one": ROW, "other": SLOW}, "star": {"row": Row([None], [2], 3)}},
    "partners": {"partner": {"wish": SOON, "row": ROW}, "greatest_difference": {"one": ROW, "other": SLOW}},
    "flats": {
        "flat": PLACES, "written": {**PLACES, "place": "cut"}, "asked": {"house": HOUSE, "name": "two"}, "levels": PLACES, "written_out": {**PLACES, "new": "n"},
        "cut_out": {"module": SHOP, "stations": ["fold"], "name": "late", "label": "c"},
    },
    "runpapers": {"run_paper": ARRIVALS, "run_holds": {**ARRIVALS, "value": run_paper(**ARRIVALS)}},
    "runs": {"run": ARRIVALS, "going": {**ARRIVALS, "place": "done", "n": 7}},
    "reasons": {"chain": {**ARRIVALS, "place": "done", "n": 1}, "chain_holds": {**ARRIVALS, "place": "order", "n": 1, "value": (("order", 1, 5),)}},
    "rates": {
        "rate": {**PLACES, "place": "done"}, "slow_ring": {**PLACES, "place": "done"}, "binding": {**PLACES, "place": "done"}, "room_for": {**PLACES, "place": "done", "at": 1},
        "paces": PLACES,
    },
    "ratepapers": {"rate_paper": {**PLACES, "place": "order"}, "rate_holds": {**PLACES, "place": "order", "value": ((), (("order", 0),))}},
    "lates": {"late_run": LATES, "touched": LATES, "made_good": {**LATES, "place": "done"}, "how_late": {**LATES, "place": "done"}},
    "slacks": {
        "near_spare": {**ARRIVALS, "place": "cut", "n": 1, "other": "done"}, "far_spare": {**ARRIVALS, "place": "cut", "n": 1, "other": "done"}, "slack": {**ARRIVALS, "at": 1},
        "tight": ARRIVALS,
    },
    "faces": {"face": PLACES, "face_with": {"house": HOUSE, "name": "two", "faces": [("a", LATE)]}, "out": {"face": ONE, "arrivals": [ROW]}, "in_row": FACES},
    "partings": {
        "parting": FACES, "parting_holds": {**FACES, "value": ((unit(),), "done", 0)}, "never_later": FACES, "late_by": {"one": LATE, "other": ONE},
    },
    "latest": {
        "can_keep": KEPT, "latest": KEPT, "in_time": {**KEPT, "arrivals": [SLOW]}, "first_late": {**KEPT, "arrivals": [Row([], [0], 9)]},
        "least_delay": {"face": ONE, "wishes": [Row([], [4], 4)]}, "spare_arrival": {**KEPT, "arrivals": [SLOW], "name": "order", "n": 2}, "latest_goings": {"face": ONE, "wishes": [[9, 9]]},
        "late_reason": {**KEPT, "name": "order", "n": 2}, "late_reason_holds": {**KEPT, "name": "order", "n": 2, "value": ("done", 2)},
    },
    "contracts": {
        "is_contract": {"value": SLOW}, "contract_of": {"row": Row([0], [3], 3)}, "keeps": {"row": SLOW, "contract": unit()}, "stay": UNDER, "stay_going": UNDER, "heap": UNDER,
        "contract_out": UNDER, "contract_for_stay": {"face": ONE, "outlet": "done", "most": 7}, "contract_for_heap": {"face": ONE, "outlet": "done", "most": 2},
    },
    "standins": {
        "parting_under": {**FACES, "contract": SLOW}, "alike_under": {**FACES, "contract": SLOW}, "parting_under_holds": {**FACES, "contract": SLOW, "value": ((SLOW,), "done", 0)},
        "stand_in": {"face": ONE, "contract": SLOW},
    },
    "ways": {"way_back": BACK, "keeps_face": {**BACK, "row": Row([None], [0])}, "closed": {**BACK, "row": Row([None], [0])}},
    "rooms": {
        "room": {"marks": 2, "lasts": 3}, "least_room": {**BACK, "lasts": 4}, "sure_row": {**PLACES, "first": "cut", "then": "fold"},
        "least_inner_room": {**PLACES, "first": "fold", "then": "cut", "lasts": 1},
        "roomed": {"house": HOUSE, "name": "two", "label": "a", "outlet": "done", "inlet": "order", "marks": 2, "lasts": 3},
    },
    "counts": {
        "endless": {}, "tally": {"row": ROW}, "goings": {"counts": tally(ROW)}, "together": {"tallies": [tally(ROW)]}, "merged": {"rows": [ROW, SLOW]},
        "least_of": {"tallies": [tally(ROW), tally(SLOW)]}, "most_of": {"tallies": [tally(ROW), tally(SLOW)]}, "shifted": {"counts": tally(ROW), "marks": 1, "lasts": 5},
        "tally_behind": TALLIES, "is_at_least": TALLIES,
    },
    "heaps": {
        "heaps": THINGS, "within": {**THINGS, "time": 9}, "stay_of": {**THINGS, "n": 3}, "longest_stay": THINGS, "shortest_stay": THINGS, "turn_of": THINGS, "mean_heap": THINGS,
        "mean_stay": THINGS,
    },
    "crowds": {
        "counts_at": {**ARRIVALS, "time": 5}, "on_link": {**ARRIVALS, "at": 1}, "under_way": {**ARRIVALS, "at": 0}, "waiting": {**ARRIVALS, "at": 1}, "most_on_links": ARRIVALS,
        "holds_up": {**ARRIVALS, "place": "cut", "time": 1},
    },
    "timetables": {
        "least_round": PLACES, "slowest": PLACES, "too_slow": {**PLACES, "beat": 3}, "timetable": {**BEAT, "wants": [("cut", 3)]}, "spared": {**BEAT, "beat": 7, "more": 1},
        "timetable_holds": {**BEAT, "value": TABLE}, "clash": {**BEAT, "wants": [("cut", 2)], "wishes": [("done", 6)]},
        "clash_holds": {**BEAT, "wants": [("cut", 2)], "wishes": [("cut", 1)], "value": ("way", "cut", ())}, "latest_times": {**BEAT, "wishes": [("done", 9)]},
        "span": {**BEAT, "one": "fold", "other": "cut"}, "margin": BEAT, "margin_paper": BEAT, "margin_holds": {**BEAT, "value": margin_paper(**BEAT)},
    },
    "lateness": {
        "spares": TABLES, "unspared": TABLES, "late_goings": {**TABLES, "lates": [("cut", 3, 2)]}, "most_late": {**TABLES, "place": "cut", "d": 2},
        "gone_after": {**TABLES, "place": "cut", "d": 2}, "unharmed": {**TABLES, "place": "fold", "other": "cut"}, "stays": {**PLACES, "beat": 4, "table": timetable(HOUSE, "shop", 4)},
        "late_way": {**TABLES, "place": "cut", "d": 2, "other": "done"}, "late_holds": {**TABLES, "place": "done", "d": 1, "value": (("done", 1),)},
    },
    "flows": {"flow": MENDED, "flow_holds": {**MENDED, "value": flow(**MENDED)}},
    "mends": {
        "hindrance": {**PLACES, "beat": 2, "prices": [None, 1, None, None]}, "mend": MENDED, "mend_cost": MENDED, "mend_holds": {**MENDED, "value": ((1, 1),)},
        "mended": {**PLACES, "cuts": [(1, 1)]}, "mend_costs": {**PLACES, "prices": PRICES}, "best_beat": {**PLACES, "prices": PRICES, "money": 4}, "cut_spans": MENDED,
    },
    "logs": {
        "log_of": {**ARRIVALS, "many": 3}, "told_back": {**PLACES, "log": LOG}, "explained": {**PLACES, "log": LOG}, "explains": {**PLACES, "log": LOG, "lasts": [3, 1, 2, 0]},
        "sure": {**PLACES, "log": LOG},
    },
    "blames": {
        "blame": {**PLACES, "log": (("cut", (9,)), *[(place, (9,)) for place in ("done", "fold", "order")])},
        "blame_holds": {**PLACES, "log": LOG, "value": ("early", 0, 0)}, "spans_clash": {**PLACES, "spans": [(3, 3), (1, 1), (3, 3), (0, 0)], "log": LOG},
    },
    "choices": {
        "choices": CHOSEN, "price": {**CHOSEN, "choice": ("shop", "slow")}, "chosen": {**CHOSEN, "choice": ("shop", "slow")}, "chosen_face": {**CHOSEN, "choice": ("shop", "slow")},
        "is_faster": FACES, "meets": {"one": ONE, "goals": [("stay", "done", SLOW, 5)]}, "cheapest": {**CHOSEN, "goals": GOALS}, "fastest": {**CHOSEN, "price": 9},
        "refutation": {**CHOSEN, "goals": GOALS, "choice": ("slow", "slow")}, "refutation_holds": {**CHOSEN, "goals": GOALS, "choice": ("slow", "slow"), "value": (0, "out", 0)},
        "bar": {**CHOSEN, "goals": GOALS, "price": 6}, "bar_holds": {**CHOSEN, "goals": GOALS, "price": 6, "value": ((("slow", "slow"), (0, "out", 0)),)},
    },
    "tidy": {
        "needless": {"module": LOOK}, "link_parting": {"module": LOOK, "at": 1}, "link_parting_holds": {"module": LOOK, "at": 1, "value": ((unit(),), "fold", 0)}, "groups": {"module": LOOK},
    },
    "cleaning": {
        "stepped": {"module": LOOK, "steps": [("link", 4)]}, "tidy_steps": {"module": LOOK}, "is_tidy": {"module": LOOK}, "steps_hold": {"module": LOOK, "value": (("link", 4), ("idle", "look"))},
        "tidied": {"module": LOOK},
    },
    "exchange": {"swaps": {"house": HOUSE, "name": "two"}, "first_change": FACES, "can_change": FACES, "made_of": {"wanted": ONE, "name": "made"}},
    "checker": {
        "holds": {**PLACES, "kind": "cheap", "question": (2, PRICES), "value": CHEAP}, "wrong_sheets": {**PLACES, "sheets": [("table", (5,), TABLE), ("table", (3,), TABLE)]},
        "ring_holds": {"modules": [Module("a", [], [], ["x"], [("x", "x", 0, 1)])], "name": "a", "value": ("x",)},
    },
    "cheap": {"cheap_paper": MENDED},
}
MADE = {
    "Row": (lambda: ROW, {"time": {"n": 4}, "count": {"time": 9}}),
    "House": (lambda: HOUSE, {"with_module": {"module": Module("x", [], [], [], [])}, "without": {"name": "two"}}),
    "Tally": (lambda: tally(ROW), {"by": {"time": 9}}),
    "Heap": (lambda: heaps(SLOW, SOON), {"by": {"time": 9}, "most": {}, "fewest": {}, "total": {"time": 3, "many": 9}}),
    "Works": (lambda: Works(house=HOUSE), {
        "put": {"module": LOOK}, "drop": {"name": "two"}, "link": {"name": "shop", "link": ("cut", "done", 0, 9)}, "cut": {"name": "shop", "link": SHOP.links[1]}, "face": {"name": "two"},
        "alike": {"many": 0}, "undo": {}, "within": {"work": lambda works: works.drop("two")},
    }),
    "Day": (lambda: Day(name="shop", house=HOUSE), {
        "come": {"inlet": "order", "time": 3}, "several": {"some": [("order", 1)]}, "sure": {"place": "done"}, "earliest": {"place": "done", "n": 2}, "time": {"place": "done", "n": 2},
        "can_keep": {"wishes": [SOON]}, "late": {"wishes": [unit()]}, "due": {"inlet": "order", "wishes": [SOON]}, "undo": {}, "within": {"work": lambda day: day.come("order", 2)},
    }),
    "Desk": (lambda: Desk(), {"say": {"command": "text"}}),
}
CALLERS = {
    "Row": (Row, {"first": [0, 2], "again": [5, 6], "more": 4}), "House": (House, {"modules": [SHOP]}), "Tally": (Tally, {"under": 0, "first": [(1, 2)], "again": [(3, 4)], "turn": 5, "more": 6}),
    "Module": (Module, {"name": "m", "inlets": ["i"], "outlets": ["o"], "stations": ["s"], "links": [("i", "c.a", 0, 1)], "calls": [("c", "x")]}),
}
READ = {"Row": (Row, "0 | 2 5 + 4"), "House": (House, str(HOUSE)), "Module": (Module, str(SHOP))}


def turned(given):
    """The same by its names, in another order."""
    return {word: given[word] for word in reversed(list(given))}


class NamesTest(unittest.TestCase):
    def test_all_functions(self):
        self.assertEqual({word: set(asks) for word, asks in CALLS.items()}, {word: set(asks) for word, asks in FUNCTIONS.items()})
        for word, asks in CALLS.items():
            module = importlib.import_module("waitworks." + word)
            for name, given in asks.items():
                self.assertEqual(tuple(given), FUNCTIONS[word][name])
                ask = getattr(module, name)
                found = ask(*given.values())
                self.check_alike(ask(**turned(given)), found)
                # Sequences are passed as lists or as tuples.
                swapped = {key: tuple(value) if isinstance(value, list) else value for key, value in given.items()}
                self.check_alike(ask(**swapped), found)

    def check_alike(self, one, other):
        if isinstance(other, (tuple, dict)):
            self.assertEqual(len(one), len(other))
        self.assertEqual(one, other)

    def test_all_methods(self):
        told = {name for _, name in CLASSES} - {"Face", "Module"}
        self.assertEqual(set(MADE), told)
        for (_, name), methods in CLASSES.items():
            if name not in MADE:
                continue
            make, asks = MADE[name]
            wanted = {method for method, parameters in methods.items() if parameters is not None and not method.startswith("__") and method != "read"}
            self.assertEqual(set(asks), wanted)
            for method, given in asks.items():
                self.assertEqual(getattr(make(), method)(**turned(given)), getattr(make(), method)(*given.values()))

    def test_makers(self):
        for made, given in CALLERS.values():
            self.assertEqual(made(**turned(given)), made(*given.values()))
        for made, text in READ.values():
            self.assertEqual(str(made.read(text=text)), text)
        self.assertEqual((empty(), Heap), (Row((), (None,)), type(heaps(SLOW, SOON))))


if __name__ == "__main__":
    unittest.main()
