"""Points 84 and 85: steps, and tidy modules."""

import random
import unittest

from waitworks.cleaning import is_tidy, stepped, steps_hold, tidied, tidy_steps
from waitworks.errors import NeverGoes, Refused
from waitworks.faces import face
from waitworks.houses import House, Module
from waitworks.rows import unit
from waitworks.runs import run
from waitworks.tidy import groups, needless

from models import ANY_VALUES, SHOP, error_of, feeders_by_hand, some_arrivals
from test_tidy import NEVER, WIDE, tidy_module


def idle_by_hand(module):
    """The stations from which no way leads to an outlet."""
    used = set()
    for outlet in module.outlets:
        used |= feeders_by_hand(module.links, outlet)
    return [station for station in module.stations if station not in used]


def step_by_hand(module, step):
    """The module behind a step of the right form, by the words of the document; None if it can't be done."""
    links, stations = list(module.links), list(module.stations)
    if step[0] == "idle":
        if step[1] not in idle_by_hand(module):
            return None
        links = [link for link in links if step[1] not in link[:2]]
        stations.remove(step[1])
    elif step[0] == "link":
        if step[1] not in needless(module):
            return None
        del links[step[1]]
    else:
        _, place, station = step
        if station not in stations or place == station or place not in module.stations + module.inlets:
            return None
        lot = [dict(lot) for lot in groups(module) if station in dict(lot)][0]
        if lot.get(place) != lot[station]:
            return None
        led = [tuple([place if end == station else end for end in link[:2]]) + link[2:] for link in links]
        links = [link for link in led if link[1] not in module.inlets and (link[0] != link[1] or link[2] > 0)]
        stations.remove(station)
    found = Module(module.name, module.inlets, module.outlets, stations, links)
    try:
        House([found])
    except NeverGoes:
        return None
    return found


def all_steps(module):
    """All steps of the right form."""
    places = module.inlets + module.stations + module.outlets
    found = [("idle", place) for place in places] + [("link", at) for at in range(len(module.links))]
    return found + [("join", one, other) for one in places for other in places]


class StepTest(unittest.TestCase):
    def test_by_hand(self):
        rng = random.Random(251)
        seen = {"idle": 0, "join": 0, "link": 0, "tidy": 0, "to inlet": 0, "ring": 0}
        while min(seen.values()) < 5:
            module = tidy_module(rng, lasts=rng.choice([0, 0, 1, 2]), marks=rng.choice([0, 1]))
            done = 0
            for step in all_steps(module):
                wanted = step_by_hand(module, step)
                if wanted is None:
                    self.assertEqual(error_of(self, Refused, stepped, module, [step]).at, 0)
                    continue
                done += 1
                seen[step[0]] += 1
                seen["to inlet"] += step[0] == "join" and step[1] in module.inlets
                found = stepped(module=module, steps=(step,))
                self.assertEqual(found, wanted)
                self.check_goings(rng, module, found)
            seen["tidy"] += done == 0
            seen["ring"] += any([step[0] == "join" and self.would_not_go(module, step) for step in all_steps(module)])
            self.assertIs(is_tidy(module=module), done == 0)

    def would_not_go(self, module, step):
        _, place, station = step
        lots = [dict(lot) for lot in groups(module)]
        same = any([lot.get(place, -1) == lot.get(station, -2) for lot in lots])
        return same and station in module.stations and place not in module.outlets and place != station and step_by_hand(module, step) is None

    def check_goings(self, rng, module, found):
        """All goings stay, but for places from which no way leads to an outlet."""
        arrivals = some_arrivals(rng, module)
        old, new = dict(run(House([module]), "m", arrivals)), dict(run(House([found]), "m", arrivals))
        idle = idle_by_hand(module)
        for place in new:
            if place not in idle:
                self.assertEqual(new[place], old[place])
        self.assertEqual(face(House([module]), "m"), face(House([found]), "m"))

    def test_several_steps(self):
        rng = random.Random(252)
        seen = {True: 0, False: 0, "refused": 0, "many": 0}
        while min(seen.values()) < 25:
            module = tidy_module(rng, lasts=rng.choice([0, 1]), marks=1)
            steps, now = [], module
            for _ in range(rng.randint(0, 6)):
                known = [step for step in all_steps(now) if step_by_hand(now, step) is not None]
                if known:
                    steps.append(rng.choice(known))
                    now = step_by_hand(now, steps[-1])
            self.assertEqual(stepped(module, steps), now)
            seen["many"] += len(steps) > 2
            good = all([step_by_hand(now, step) is None for step in all_steps(now)])
            seen[good] += 1
            self.assertIs(steps_hold(module=module, value=tuple(steps)), good)
            wrong = [step for step in all_steps(now) if step_by_hand(now, step) is None]
            if wrong:
                seen["refused"] += 1
                more = [*steps, rng.choice(wrong), ("idle", "x")]
                self.assertEqual(error_of(self, Refused, stepped, module, more).at, len(steps))
                self.assertIs(steps_hold(module, tuple(more)), False)

    def test_tidied(self):
        rng = random.Random(253)
        seen = {"steps": 0, "none": 0, "again": 0}
        while min(seen.values()) < 25:
            module = tidy_module(rng, lasts=rng.choice([0, 1, 2]), marks=rng.choice([1, 2]))
            steps = tidy_steps(module=module)
            self.assertIsInstance(steps, tuple)
            now = module
            for step in steps:
                now = step_by_hand(now, step)
                self.assertIsNotNone(now)
            self.assertFalse([step for step in all_steps(now) if step_by_hand(now, step) is not None])
            self.assertEqual(stepped(module, steps), now)
            self.assertIs(steps_hold(module, steps), True)
            found = tidied(module=module)
            self.assertIs(is_tidy(found), True)
            self.assertEqual((found.name, face(House([found]), "m")), ("m", face(House([module]), "m")))
            seen["steps" if steps else "none"] += 1
            kinds = [step[0] for step in steps]
            seen["again"] += "idle" in kinds[kinds.count("idle"):] or len(set(kinds)) > 1

    def test_told(self):
        self.assertEqual(stepped(WIDE, [("idle", "look"), ("link", 4)]).links, SHOP.links)
        self.assertEqual((is_tidy(SHOP), is_tidy(WIDE), tidy_steps(SHOP), stepped(SHOP, [])), (True, False, (), SHOP))
        # A link is needless only alone: it has another number then, or is needed.
        twin = Module("m", ["i"], ["o"], [], [("i", "o", 0, 1), ("i", "o", 0, 1)])
        self.assertEqual(error_of(self, Refused, stepped, twin, [("link", 1), ("link", 0)]).at, 1)
        self.assertEqual(tidied(twin).links, (("i", "o", 0, 1),))
        # What stays idle goes otherwise then, and is in step with something else.
        loose = Module("m", [], [], ["a", "b", "c"], [("a", "b", 0, 5), ("b", "c", 0, 0)])
        self.assertEqual(stepped(loose, [("idle", "a"), ("join", "b", "c")]).links, ())
        self.assertEqual(error_of(self, Refused, stepped, loose, [("idle", "c"), ("join", "a", "b")]).at, 1)
        self.assertEqual(stepped(loose, [("idle", "a"), ("link", 0)]).links, ())
        self.assertEqual(tidied(loose), Module("m", [], [], [], []))

    def test_joins(self):
        module = Module("m", ["i"], ["o"], ["s", "t", "u"], [("i", "s", 0, 0), ("s", "t", 0, 0), ("t", "u", 0, 0), ("u", "o", 0, 1), ("s", "s", 1, 0)])
        # Between these another one stands, which would wait for itself.
        self.assertEqual(error_of(self, Refused, stepped, module, [("join", "s", "u")]).at, 0)
        self.assertEqual(stepped(module, [("join", "s", "t"), ("join", "s", "u")]).links, (("i", "s", 0, 0), ("s", "o", 0, 1), ("s", "s", 1, 0)))
        self.assertEqual(stepped(module, [("join", "t", "s")]).links, (("i", "t", 0, 0), ("t", "u", 0, 0), ("u", "o", 0, 1), ("t", "t", 1, 0)))
        # Behind an inlet: links to it go out.
        self.assertEqual(stepped(module, [("join", "i", "s")]).links, (("i", "t", 0, 0), ("t", "u", 0, 0), ("u", "o", 0, 1)))
        self.assertEqual(tidied(module).stations, ())
        for step in (("join", "o", "u"), ("join", "u", "o"), ("join", "s", "i"), ("join", "s", "s")):
            self.assertEqual(error_of(self, Refused, stepped, module, [step]).at, 0)
        later = Module("m", ["i"], ["o"], ["s", "t"], [("i", "s", 0, 2), ("s", "t", 0, 1), ("t", "o", 0, 0)])
        for step in (("join", "s", "t"), ("join", "t", "s"), ("join", "i", "s")):
            self.assertEqual(error_of(self, Refused, stepped, later, [step]).at, 0)

    def test_any_values(self):
        for value in ANY_VALUES:
            if value not in ([], ()):
                self.assertEqual(error_of(self, Refused, stepped, WIDE, value).at, 0)
            self.assertIs(steps_hold(WIDE, value), False)
            self.assertIs(steps_hold(SHOP, value), value == () and isinstance(value, tuple))
            for other in (value, ("idle", value), ("link", value), ("join", value, "look"), ("join", "fold", value), (value, "look"), (value, 4), (value, "fold", "look")):
                self.assertEqual(error_of(self, Refused, stepped, WIDE, (("idle", "look"), other)).at, 1)
                self.assertIs(steps_hold(WIDE, (("idle", "look"), ("link", 4), other)), False)
        good = (("idle", "look"), ("link", 4))
        self.assertIs(steps_hold(WIDE, good), True)
        self.assertIs(steps_hold(WIDE, (("join", "fold", "look"), ("link", 4))), True)
        for value in (list(good), good[:1], good[1:], good + good, (list(good[0]), good[1]), (("idle", "look", 0), good[1]), (good[0], ("link", 4, 0)), (good[0], ("link", True)), (good[0], ("link", -1)),
                      (("idle", "cut"), good[1]), (("look", "idle"), good[1]), (("idle", "done"), good[1]), (("join", "look"), good[1])):
            self.assertIs(steps_hold(WIDE, value), False)
        self.assertEqual(stepped(WIDE, [("link", 4), ("idle", "look")]).links, SHOP.links)

    def test_never(self):
        for ask, given in ((stepped, (None,)), (is_tidy, ()), (tidy_steps, ()), (steps_hold, (None,)), (tidied, ())):
            self.assertEqual(error_of(self, NeverGoes, ask, NEVER, *given).ring, ("s", "t"))

    def test_no_outlets(self):
        module = Module("m", ["i"], [], ["s"], [("i", "s", 0, 1)])
        self.assertEqual((tidied(module), is_tidy(Module("m", ["i"], [], [], []))), (Module("m", ["i"], [], [], []), True))
        self.assertEqual(dict(run(House([tidied(module)]), "m", [unit()])), {"i": unit()})


if __name__ == "__main__":
    unittest.main()
