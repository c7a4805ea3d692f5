"""Points 72 to 78: menus, choices, goals, what is fastest, and bars."""

import itertools
import random
import unittest

from waitworks.choices import (
    bar, bar_holds, cheapest, choices, chosen, chosen_face, fastest, is_faster, meets, price, refutation, refutation_holds,
)
from waitworks.contracts import heap, stay
from waitworks.errors import InvalidChoice, InvalidGoals, InvalidMenu, NeverGoes, NoPlace
from waitworks.faces import Face, face, out
from waitworks.houses import House, Module
from waitworks.latest import in_time
from waitworks.partings import never_later
from waitworks.rows import Row, is_at_most, later, unit
from waitworks.sums import least

from models import ANY_VALUES, HOUSE, SHOP, STREET, busy_house, error_of, some_arrivals, some_contract, some_face, some_row

SLOW = Module("slow", ["order"], ["done"], ["cut"], [("order", "cut", 0, 3), ("cut", "done", 0, 4), ("cut", "cut", 1, 4)])
LATER = Module("late", ["order"], ["done"], [], [("order", "done", 1, 2)])
WIDE, CALM = House([SHOP, SLOW, STREET]), Row((), (0,), 6)
MENU, GOALS = [("a", [("shop", 5), ("slow", 2)]), ("b", [("shop", 4), ("slow", 2)])], [("stay", "out", CALM, 13)]


def some_menu_house(rng, labels="xyz", outer=("i",)):
    """A house by chance whose module m makes some calls of parts with the same ends, and a menu for them."""
    inlets, outlets = rng.choice([("i",), ("i", "j")]), rng.choice([("o",), ("o", "p")])
    parts = []
    for name in "abcd"[:rng.randint(2, 4)]:
        parts.append(busy_house(rng, inlets=inlets, outlets=outlets, stations=rng.randint(0, 2), more=2, lasts=4, name=name, loose=0.2)[name])
    labels = labels[:rng.randint(1, len(labels))]
    calls = [(label, rng.choice(parts).name) for label in labels]
    ins, outs, at = list(outer), ["o", "p"][:rng.randint(1, 2)], ["s", "t"][:rng.randint(0, 2)]
    begins = ins + at + [label + "." + end for label in labels for end in outlets]
    ends = at + outs + [label + "." + end for label in labels for end in inlets]
    pairs = [(begin, rng.choice(ends)) for begin in begins] + [(rng.choice(begins), end) for end in ends]
    links = [(*pair, rng.choice([0, 0, 1, 2]), rng.randint(0, 4)) for pair in pairs]
    module = Module("m", ins, outs, at, links, calls)
    menu = []
    for label in rng.sample(labels, rng.randint(0, len(labels))):
        offers = rng.sample(parts, rng.randint(1, min(3, len(parts))))
        menu.append((label, [(part.name, rng.randint(0, 3)) for part in offers]))
    last = Module("n", ins, outs, [], [(one, "z." + one, 0, 1) for one in ins] + [("z." + one, one, 0, 1) for one in outs], [("z", "m")])
    return parts, module, [last] if rng.random() < 0.3 else [], menu


def house_by_hand(parts, module, rest, menu, choice):
    picked = dict(zip([label for label, _ in menu], choice))
    calls = [(label, picked.get(label, called)) for label, called in module.calls]
    return House([*parts, Module("m", module.inlets, module.outlets, module.stations, module.links, calls), *rest])


def choices_by_hand(menu):
    return sorted(itertools.product(*[[name for name, _ in offers] for _, offers in menu]))


def price_by_hand(menu, choice):
    return sum([dict(offers)[name] for (_, offers), name in zip(menu, choice)])


def good_case(rng, **limits):
    """A house, a menu by which each choice goes, and all choices."""
    while True:
        parts, module, rest, menu = some_menu_house(rng, **limits)
        try:
            houses = {choice: house_by_hand(parts, module, rest, menu, choice) for choice in choices_by_hand(menu)}
            return House([*parts, module, *rest]), menu, houses
        except NeverGoes:
            pass


def some_goals(rng, one):
    """Goals by chance for modules with the ends of this face, which it may meet."""
    found = []
    for _ in range(rng.choice([1, 1, 2, 3])):
        kind = rng.choice(["late", "stay", "heap"]) if len(one.inlets) == 1 else "late"
        if kind == "late":
            arrivals = [some_row(rng) for _ in one.inlets]
            lower = lambda row: rng.choice([least([row, Row((), (rng.randint(5, 60),))]), later(row, 1, 0)])
            wishes = [lower(row) if rng.random() < 0.1 else later(row, 0, rng.choice([0, 0, 1])) for row in out(one, arrivals)]
            found.append(("late", arrivals, wishes))
            continue
        outlet, contract = rng.choice(one.outlets), some_contract(rng)
        most = (stay if kind == "stay" else heap)(one, outlet, contract)
        found.append((kind, outlet, contract, max(0, rng.randint(0, 30) if most is None else most + rng.choice([-1, 0, 0, 0, 1]))))
    return found


def meets_by_hand(one, goals):
    for goal in goals:
        if goal[0] == "late":
            if not all([is_at_most(row, wish) for row, wish in zip(out(one, goal[1]), goal[2])]):
                return False
        else:
            most = (stay if goal[0] == "stay" else heap)(one, goal[1], goal[2])
            if most is None or most > goal[3]:
                return False
    return True


def refutes_by_hand(one, goals, value):
    at, outlet, n = value
    goal = goals[at]
    arrivals = goal[1] if goal[0] == "late" else [goal[2]]
    time = out(one, arrivals)[one.outlets.index(outlet)].time(n)
    if goal[0] == "late":
        wish = goal[2][one.outlets.index(outlet)].time(n)
        return wish is None or time > wish
    if outlet != goal[1]:
        return False
    return time - goal[2].time(n) > goal[3] if goal[0] == "stay" else time > goal[2].time(n + goal[3])


class ChoiceTest(unittest.TestCase):
    def test_all_choices(self):
        rng = random.Random(231)
        seen = {"never": 0, "goes": 0, "unlike": 0}
        while min(seen.values()) < 15:
            parts, module, rest, menu = some_menu_house(rng)
            try:
                house = House([*parts, module, *rest])
            except NeverGoes:
                continue
            rings = []
            for choice in choices_by_hand(menu):
                try:
                    house_by_hand(parts, module, rest, menu, choice)
                except NeverGoes as error:
                    rings.append(error.ring)
            if rings:
                seen["never"] += 1
                some = choices_by_hand(menu)[0]
                for ask, given in ((choices, ()), (price, (some,)), (price, (None,)), (chosen, (some,)), (chosen_face, (None,)), (cheapest, (None,)), (fastest, (9,)),
                                   (refutation, (None, None)), (refutation_holds, (None, None, None)), (bar, (None, 9)), (bar_holds, (None, 9, None))):
                    ring = error_of(self, NeverGoes, ask, house, "m", menu, *given).ring
                    self.assertEqual(sorted(ring), sorted(rings[0]))
                continue
            seen["goes"] += 1
            found = choices(house=house, name="m", menu=menu)
            self.assertEqual(found, tuple(choices_by_hand(menu)))
            faces = []
            for choice in found:
                self.assertEqual(price(house=house, name="m", menu=menu, choice=choice), price_by_hand(menu, choice))
                wanted = house_by_hand(parts, module, rest, menu, choice)
                self.assertEqual(chosen(house=house, name="m", menu=menu, choice=choice), wanted)
                faces.append(chosen_face(house=house, name="m", menu=menu, choice=choice))
                self.assertEqual(faces[-1], face(wanted, "m"))
            seen["unlike"] += any([one != faces[0] for one in faces])

    def test_a_ring_farther_on(self):
        # The module itself goes by each choice; what calls it does not.
        outer = Module("outer", [], [], [], [("z.done", "z.order", 0, 1)], [("z", "mid")])
        middle = Module("mid", ["order"], ["done"], [], [("order", "x.order", 0, 0), ("x.done", "done", 0, 0)], [("x", "late")])
        house = House([SLOW, LATER, middle, outer])
        self.assertEqual(choices(house, "mid", [("x", [("late", 1)])]), (("late",),))
        ring = error_of(self, NeverGoes, choices, house, "mid", [("x", [("late", 1), ("slow", 1)])]).ring
        self.assertEqual(ring, ("z.done", "z.order", "z.x.order", "z.x.cut", "z.x.done"))

    def test_edges(self):
        self.assertEqual((choices(HOUSE, "shop", []), price(HOUSE, "shop", (), ())), (((),), 0))
        self.assertEqual((chosen(HOUSE, "two", [], ()), chosen_face(HOUSE, "shop", [], ())), (HOUSE, face(HOUSE, "shop")))
        self.assertEqual(choices(WIDE, "two", [("b", (("slow", 0), ("shop", 0)))]), (("shop",), ("slow",)))
        self.assertEqual(chosen(WIDE, "two", MENU, ("slow", "shop"))["two"].calls, (("a", "slow"), ("b", "shop")))
        self.assertEqual(chosen(WIDE, "two", [MENU[1], MENU[0]], ("slow", "shop"))["two"].calls, (("a", "shop"), ("b", "slow")))

    def test_is_faster(self):
        rng = random.Random(232)
        seen = {True: 0, False: 0}
        for _ in range(150):
            ends = {"inlets": "i", "outlets": rng.choice(["o", "op"]), "stations": 1, "more": 1, "lasts": 1, "marks": 1}
            one, other = some_face(rng, **ends), some_face(rng, **ends)
            pairs = list(zip(one.clock, other.clock)) + [pair for some in zip(one.rows, other.rows) for pair in zip(*some)]
            wanted = all([is_at_most(row, limit) for row, limit in pairs])
            self.assertIs(is_faster(one=one, other=other), wanted)
            self.assertIs(never_later(one, other), wanted)
            self.assertIs(is_faster(one, one), True)
            seen[wanted] += 1
        self.assertGreater(min(seen.values()), 20)

    def test_wrong_menus(self):
        asks = [(choices, ()), (price, (None,)), (chosen, (None,)), (chosen_face, (None,)), (cheapest, (None,)), (fastest, (9,)), (refutation, (None, None)),
                (refutation_holds, (None, None, None)), (bar, (None, 9)), (bar_holds, (None, 9, None))]
        wide = House([SHOP, SLOW, STREET, Module("last", ["order"], ["done"], [], []), Module("ins", ["x"], ["done"], [], [])])
        early = House([SHOP, Module("ins", ["x"], ["done"], [], []), Module("outs", ["order"], [], [], []), STREET, SLOW])
        for ask, given in asks:
            for value in ANY_VALUES:
                if value != "shop":
                    self.assertIs(error_of(self, NoPlace, ask, WIDE, value, None, *given).name, value)
                if value not in ([], ()):
                    self.assertEqual(error_of(self, InvalidMenu, ask, WIDE, "two", value, *given).at, 0)
                for menu, at in (((value,), 0), ([MENU[0], value], 1), ([MENU[0], ("b", value)], 1), ([MENU[0], (value, [("shop", 1)])], 1), ([("a", [value])], 0),
                                 ([("a", [("shop", 1), value])], 0), ([("a", [("slow", value)])], 0 if value not in (0, 1, 10 ** 15) or isinstance(value, bool) else None),
                                 ([("a", [(value, 3)])], 0 if value != "shop" else None)):
                    if at is not None and value != "a":
                        self.assertEqual(error_of(self, InvalidMenu, ask, WIDE, "two", menu, *given).at, at)
            for menu, at in (([MENU[0], MENU[0]], 1), ([("c", [("shop", 1)])], 0), ([MENU[0], ("in", [("shop", 1)])], 1), ([("a", [])], 0), ([("a", [("shop", 1), ("shop", 2)])], 0),
                             ([("a", [("last", 1)])], 0), ([("a", [("two", 1)])], 0), ([("a", [("x", 1)])], 0), ([MENU[0], ["b", [("shop", 1)]]], 1), ([("a", [["shop", 1]])], 0),
                             ([("a", [("shop", -1)])], 0), ([("a", [("shop", True)])], 0), ([("a", [("shop", 1, 1)])], 0), ([("a", "shop")], 0), ([("a", [("ins", 1)])], 0)):
                self.assertEqual(error_of(self, InvalidMenu, ask, wide, "two", menu, *given).at, at)
            for name in ("ins", "outs", "slow"):
                self.assertEqual(error_of(self, InvalidMenu, ask, early, "two", [MENU[1][:1] + ([("shop", 1)],), ("a", [("shop", 1), (name, 1)])], *given).at, 1)

    def test_wrong_choices(self):
        for ask, given in ((price, ()), (chosen, ()), (chosen_face, ())):
            for value in [*ANY_VALUES, ("shop",), ("shop", "shop", "shop"), ["shop", "slow"], ("slow", "two"), ("slow", None), ("shop", ("slow",))]:
                error_of(self, InvalidChoice, ask, WIDE, "two", MENU, value, *given)
                error_of(self, InvalidChoice, refutation, WIDE, "two", MENU, None, value)
                error_of(self, InvalidChoice, refutation_holds, WIDE, "two", MENU, None, value, None)


class GoalTest(unittest.TestCase):
    def test_meets(self):
        rng = random.Random(233)
        seen = {(kind, good): 0 for kind in ("late", "stay", "heap") for good in (True, False)}
        while min(seen.values()) < 20:
            one = some_face(rng, inlets=rng.choice(["i", "i", "i", "", "ij"]), lasts=4)
            goals = some_goals(rng, one)
            wanted = meets_by_hand(one, goals)
            self.assertIs(meets(one=one, goals=goals), wanted)
            self.assertIs(meets(one, tuple(goals)), wanted)
            for goal in goals:
                seen[goal[0], meets(one, [goal])] += 1

    def test_choices_that_meet(self):
        rng = random.Random(234)
        seen = {"none": 0, "all": 0, "some": 0, "bar": 0, "no bar": 0, "several": 0, "free": 0}
        while min(seen.values()) < 7:
            house, menu, houses = good_case(rng, outer=rng.choice([("i",), ("i",), ("i", "j")]))
            faces = {choice: face(made, "m") for choice, made in houses.items()}
            goals = some_goals(rng, faces[rng.choice(list(faces))])
            good = [choice for choice in houses if meets_by_hand(faces[choice], goals)]
            found = cheapest(house=house, name="m", menu=menu, goals=goals)
            if not good:
                self.assertIsNone(found)
            else:
                cost = min([price_by_hand(menu, choice) for choice in good])
                self.assertEqual(found, (cost, tuple([choice for choice in sorted(good) if price_by_hand(menu, choice) == cost])))
                seen["several"] += len(found[1]) > 1
                seen["free"] += cost == 0
            seen["none" if not good else "all" if len(good) == len(houses) else "some"] += 1
            for choice in houses:
                why = refutation(house=house, name="m", menu=menu, goals=goals, choice=choice)
                self.assertIs(why is None, choice in good)
                if why is not None:
                    self.assertTrue(refutes_by_hand(faces[choice], goals, why))
                    self.assertIs(refutation_holds(house=house, name="m", menu=menu, goals=goals, choice=choice, value=why), True)
                for _ in range(4):
                    value = (rng.randrange(len(goals)), rng.choice(faces[choice].outlets), rng.choice([rng.randint(0, 9), rng.randint(0, 9), 10 ** 15]))
                    wanted = refutes_by_hand(faces[choice], goals, value)
                    self.assertIs(refutation_holds(house, "m", menu, goals, choice, value), wanted)
            self.check_bars(rng, house, menu, goals, faces, good, seen)

    def check_bars(self, rng, house, menu, goals, faces, good, seen):
        parts = {name: face(house, name) for _, offers in menu for name, _ in offers}
        as_fast = lambda one, other: all([never_later(parts[quick], parts[slow]) for quick, slow in zip(one, other)])
        for most in (0, 1, rng.randint(0, 18), 99):
            below = [choice for choice in sorted(faces) if price_by_hand(menu, choice) < most]
            wanted = [one for one in below if all([as_fast(one, other) for other in below if as_fast(other, one)])]
            self.assertEqual(fastest(house=house, name="m", menu=menu, price=most), tuple(wanted))
            found = bar(house=house, name="m", menu=menu, goals=goals, price=most)
            if any([choice in good for choice in below]):
                seen["no bar"] += 1
                self.assertIsNone(found)
                continue
            seen["bar"] += len(below) > 0
            self.assertIsInstance(found, tuple)
            self.assertIs(bar_holds(house=house, name="m", menu=menu, goals=goals, price=most, value=found), True)
            other = [pair for pair in found if rng.random() < 0.7]
            for choice in faces:
                if rng.random() < 0.3:
                    other.append((choice, (0, rng.choice(faces[choice].outlets), rng.randint(0, 5))))
            wanted = all([refutes_by_hand(faces[choice], goals, why) for choice, why in other])
            wanted = wanted and all([any([as_fast(one, choice) for one, _ in other]) for choice in below])
            self.assertIs(bar_holds(house, "m", menu, goals, most, tuple(other)), wanted)

    def test_any_values(self):
        low = ("slow", "slow")
        self.assertIs(refutation_holds(WIDE, "two", MENU, GOALS, low, (0, "out", 0)), True)
        self.assertIs(refutation_holds(WIDE, "two", MENU, GOALS, low, (0, "out", 10 ** 15)), True)
        self.assertIs(refutation_holds(WIDE, "two", MENU, GOALS, ("slow", "shop"), (0, "out", 10 ** 15)), False)
        paper = ((low, (0, "out", 0)),)
        self.assertIs(bar_holds(WIDE, "two", MENU, GOALS, 6, paper), True)
        self.assertIs(bar_holds(WIDE, "two", MENU, GOALS, 6, paper * 3), True)
        self.assertEqual(bar(WIDE, "two", MENU, GOALS, 4), ())
        self.assertIs(bar_holds(WIDE, "two", MENU, GOALS, 4, ()), True)
        for value in ((), paper * 2 + ((("shop", "shop"), (0, "out", 0)),), list(paper), (list(paper[0]),), ((low, (0, "in", 0)),), ((list(low), (0, "out", 0)),), ((low, (0, "out", 0), 0),),
                      ((("slow", "shop"), (0, "out", 0)),), ((("slow",), (0, "out", 0)),)):
            self.assertIs(bar_holds(WIDE, "two", MENU, GOALS, 6, value), False, value)
        for value in ([0, "out", 0], (0, "out"), (0, "out", 0, 0), (1, "out", 0), (-1, "out", 0), (False, "out", 0), (0, "out", False), (0, "out", -1), (0, "in", 0), (0, "out", None), (None, "out", 0)):
            self.assertIs(refutation_holds(WIDE, "two", MENU, GOALS, low, value), False, value)
        for value in ANY_VALUES:
            self.assertIs(refutation_holds(WIDE, "two", MENU, GOALS, low, value), False)
            self.assertIs(refutation_holds(WIDE, "two", MENU, GOALS, low, (value, "out", 0)), value == 0 and value is not False)
            self.assertIs(refutation_holds(WIDE, "two", MENU, GOALS, low, (0, value, 0)), False)
            self.assertIs(refutation_holds(WIDE, "two", MENU, GOALS, low, (0, "out", value)), value in (0, 1, 10 ** 15) and not isinstance(value, bool))
            for other in (value, (value,), ((value, (0, "out", 0)),), ((low, value),)):
                self.assertIs(bar_holds(WIDE, "two", MENU, GOALS, 6, other), False)

    def test_wrong_goals(self):
        one = face(WIDE, "two")
        asks = [lambda goals: meets(one, goals), lambda goals: cheapest(WIDE, "two", MENU, goals), lambda goals: refutation(WIDE, "two", MENU, goals, ("shop", "shop")),
                lambda goals: refutation_holds(WIDE, "two", MENU, goals, ("shop", "shop"), None), lambda goals: bar(WIDE, "two", MENU, goals, 6),
                lambda goals: bar_holds(WIDE, "two", MENU, goals, 6, None)]
        late, still = ("late", [unit()], [unit()]), ("heap", "out", CALM, 3)
        for ask in asks:
            for value in ANY_VALUES:
                self.assertEqual(error_of(self, InvalidGoals, ask, value).at, 0)
                wrong = [value, ("late", value, [unit()]), ("late", [unit()], value), ("stay", value, CALM, 3), ("heap", "out", value, 3), ("stay", "out", CALM, value), (value, "out", CALM, 3)]
                for goal in wrong:
                    if value not in (0, 1, 10 ** 15, [Row((), (0,))]) or isinstance(value, bool):
                        if value != Row((), (0,)):
                            self.assertEqual(error_of(self, InvalidGoals, ask, [late, still, goal]).at, 2)
            for goal in (("late", [Row([None], [0])], [unit()]), ("late", [Row((), (-1,))], [unit()]), ("late", [unit()] * 2, [unit()]), ("late", [unit()], []), ("late", [unit()], [unit()], 3),
                         ("stay", "in", CALM, 3), ("stay", "out", Row((), (1,)), 3), ("stay", "out", Row([0, 5], [6]), 3), ("heap", "out", CALM, -1), ("heap", "out", CALM, True),
                         ("stay", "out", CALM), ["stay", "out", CALM, 3], ("later", [unit()], [unit()])):
                self.assertEqual(error_of(self, InvalidGoals, ask, (still, goal)).at, 1)
            ask([("late", (unit(),), (Row([None, 3], [5]),)), ("stay", "out", unit(), 0)])
        # Stays are told of modules with one inlet only.
        for inlets in ("", "ij"):
            other = face(House([Module("m", list(inlets), ["o"], [], [])]), "m")
            self.assertIs(meets(other, [("late", [unit()] * len(inlets), [unit()])]), True)
            self.assertEqual(error_of(self, InvalidGoals, meets, other, [("stay", "o", CALM, 99)]).at, 0)

    def test_told(self):
        self.assertEqual(cheapest(WIDE, "two", MENU, GOALS), (6, (("slow", "shop"),)))
        self.assertEqual(fastest(WIDE, "two", MENU, 9), (("shop", "slow"), ("slow", "shop")))
        self.assertEqual((fastest(WIDE, "two", MENU, 10), fastest(WIDE, "two", MENU, 4), fastest(WIDE, "two", MENU, 0)), ((("shop", "shop"),), (), ()))
        self.assertIsNone(bar(WIDE, "two", MENU, GOALS, 7))
        self.assertIsNone(cheapest(WIDE, "two", MENU, [("stay", "out", CALM, 10)]))
        self.assertEqual(cheapest(WIDE, "two", MENU, [("stay", "out", CALM, 15)]), (4, (("slow", "slow"),)))
        self.assertIsInstance(chosen_face(WIDE, "two", MENU, ("slow", "shop")), Face)
        self.assertIs(meets(chosen_face(WIDE, "two", MENU, ("slow", "shop")), GOALS), True)
        self.assertIs(in_time(face(WIDE, "two"), [Row((), (11,), 4)], [unit()]), True)


if __name__ == "__main__":
    unittest.main()
