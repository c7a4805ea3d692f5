"""Points 88 to 92: works that are changed."""

import random
import unittest

from waitworks.errors import InvalidHouse, InvalidModule, NeverGoes, NoPlace, Refused
from waitworks.faces import Face, face
from waitworks.houses import House, Module
from waitworks.works import Works

from models import ANY_VALUES, HOUSE, SHOP, STREET, error_of, some_house, some_module

QUICK = Module("quick", ["order"], ["done"], [], [("order", "done", 0, 1)])


def told_by_hand(old, new):
    """The names of the modules that are new, or have other faces, in their order."""
    return tuple([name for name in new.names if name not in old.names or face(old, name) != face(new, name)])


def some_deed(rng, house):
    """The name of a deed by chance, what is given to it, and the house that it makes; None if it raises an error."""
    module = rng.choice(house.modules) if house.modules else SHOP
    kind = rng.choice(["put", "put", "link", "link", "cut", "drop"]) if house.modules else "put"
    try:
        if kind == "put":
            new = some_module(rng, rng.choice(["a", "b", "c", module.name]), ahead=[one for one in house.modules if one.name != module.name][:2])
            if rng.random() < 0.5:
                # The same inlets and outlets, so that it can be called as ahead.
                at = [place for place in "stuv"[:rng.randint(0, 3)] if place not in module.inlets + module.outlets]
                begins, ends = list(module.inlets) + at, at + list(module.outlets)
                links = [(rng.choice(begins), rng.choice(ends), rng.randint(0, 2), rng.randint(0, 4)) for _ in range(5) if begins and ends]
                new = Module(module.name, module.inlets, module.outlets, at, links)
            return kind, (new,), house.with_module(new)
        if kind == "drop":
            return kind, (module.name,), house.without(module.name)
        link = rng.choice(module.links) if module.links else ("s", "t", 0, 0)
        link = (*link[:2], link[2] + (kind == "link" and rng.random() < 0.5), link[3] + (kind == "link" and rng.randint(-1, 1)))
        links = list(module.links) + [link] if kind == "link" else list(module.links)
        if kind == "cut":
            links.remove(link)
        return kind, (module.name, link), house.with_module(Module(module.name, module.inlets, module.outlets, module.stations, links, module.calls))
    except (ValueError, KeyError):
        return None


class WorksTest(unittest.TestCase):
    def test_deeds(self):
        rng = random.Random(271)
        seen = {"put": 0, "drop": 0, "link": 0, "cut": 0, "none": 0, "one": 0, "several": 0, "undo": 0, "nothing": 0, "alike": 0, "unlike": 0}
        while min(seen.values()) < 8:
            works = Works(house=some_house(rng, modules=3, stations=3, lasts=3))
            past = [works.house]
            for _ in range(12):
                if rng.random() < 0.2:
                    self.assertIs(works.undo(), len(past) > 1)
                    seen["undo" if len(past) > 1 else "nothing"] += 1
                    past = past[:-1] if len(past) > 1 else past
                else:
                    deed = some_deed(rng, works.house)
                    if deed is None:
                        continue
                    kind, given, house = deed
                    told = getattr(works, kind)(*given)
                    self.assertEqual(told, told_by_hand(past[-1], house))
                    self.assertIsInstance(told, tuple)
                    past.append(house)
                    seen[kind] += 1
                    seen["none" if not told else "one" if len(told) == 1 else "several"] += 1
                self.assertEqual((works.house, len(works)), (past[-1], len(past) - 1))
                for name in works.house.names:
                    self.assertEqual(works.face(name=name), face(works.house, name))
                many = rng.randrange(len(past))
                one, other = past[-1], past[-1 - many]
                wanted = set(one.names) == set(other.names) and all([face(one, name) == face(other, name) for name in one.names])
                self.assertIs(works.alike(many=many), wanted)
                seen["alike" if wanted and many > 0 else "unlike"] += 1

    def test_told(self):
        works = Works(HOUSE)
        self.assertEqual((works.link("shop", ("cut", "done", 0, 5)), works.link("shop", ("cut", "done", 0, 6)), works.alike(1), works.undo(), len(works)),
                         ((), ("shop", "two"), False, True, 1))
        self.assertEqual(works.house["shop"].links, (*SHOP.links, ("cut", "done", 0, 5)))
        self.assertEqual(works.cut("shop", ("cut", "done", 0, 5)), ())
        self.assertEqual((works.house, len(works), works.alike(2), works.alike(0)), (HOUSE, 2, True, True))
        self.assertEqual(works.put(QUICK), ("quick",))
        self.assertIs(works.alike(1), False)
        self.assertEqual((works.drop("quick"), works.house, works.alike(2)), ((), HOUSE, True))
        self.assertIsInstance(works.face("shop"), Face)
        self.assertEqual([works.undo() for _ in range(5)], [True] * 4 + [False])
        self.assertEqual((works.house, len(works)), (HOUSE, 0))

    def test_order_and_equal_links(self):
        works = Works(House([SHOP, QUICK]))
        # The same modules in another order are alike.
        works.drop("shop")
        self.assertEqual(works.put(SHOP), ("shop",))
        self.assertEqual((works.house.names, works.alike(2), works.alike(1)), (("quick", "shop"), True, False))
        works.link("quick", ("order", "done", 1, 7))
        works.link("quick", ("order", "done", 0, 1))
        self.assertEqual(works.cut("quick", ("order", "done", 0, 1)), ())
        self.assertEqual(works.house["quick"].links, (("order", "done", 1, 7), ("order", "done", 0, 1)))
        works = Works(House([SHOP, STREET]))
        self.assertEqual(works.put(Module("shop", ["order"], ["done"], [], [("order", "done", 0, 1)])), ("shop", "two"))
        self.assertEqual(works.house.names, ("shop", "two"))
        # What does the same is not told, whatever its text is.
        self.assertEqual(works.put(Module("shop", ["order"], ["done"], ["x"], [("order", "x", 0, 1), ("x", "done", 0, 0)])), ())

    def check_same(self, works, house, many):
        self.assertEqual((works.house, len(works)), (house, many))

    def test_errors(self):
        works = Works(HOUSE)
        works.link("two", ("in", "out", 0, 4))
        house = works.house
        for value in ANY_VALUES:
            if value not in ("shop", SHOP):
                for ask, given in ((works.drop, ()), (works.link, (None,)), (works.cut, (None,)), (works.face, ())):
                    self.assertIs(error_of(self, NoPlace, ask, value, *given).name, value)
            if value != SHOP:
                self.assertEqual(error_of(self, InvalidHouse, works.put, value).at, 2)
            self.assertEqual(error_of(self, InvalidModule, works.link, "shop", value).word, "links")
            self.assertEqual(error_of(self, Refused, works.cut, "shop", value).at, 4)
            for at in range(4):
                link = ("cut", "fold", 0, 3)
                if value != link[at] or isinstance(value, bool):
                    self.assertEqual(error_of(self, Refused, works.cut, "shop", (*link[:at], value, *link[at + 1:])).at, 4)
            self.check_same(works, house, 1)
        self.assertEqual(error_of(self, Refused, works.cut, "two", ("in", "out", 0, 5)).at, 4)
        self.assertEqual(error_of(self, Refused, works.cut, "shop", ["cut", "fold", 0, 3]).at, 4)
        self.assertEqual(error_of(self, NeverGoes, works.link, "shop", ("fold", "cut", 0, 0)).ring, ("cut", "fold"))
        self.assertEqual(error_of(self, NeverGoes, works.link, "two", ("b.done", "a.order", 0, 0)).ring[0], "a.cut")
        self.assertEqual(error_of(self, InvalidModule, works.link, "two", ("c.done", "a.order", 1, 0)).word, "links")
        self.assertEqual(error_of(self, InvalidHouse, works.link, "two", ("a.order", "b.order", 1, 0)).at, 1)
        self.assertEqual(error_of(self, InvalidHouse, works.drop, "shop").at, 0)
        self.assertEqual(error_of(self, InvalidHouse, works.put, Module("shop", ["x"], ["done"], [], [])).at, 1)
        self.assertEqual(error_of(self, InvalidHouse, works.put, Module("shop", [], [], [], [], [("c", "two")])).at, 0)
        self.assertEqual(error_of(self, NeverGoes, works.put, Module("x", [], [], ["s"], [("s", "s", 0, 0)])).ring, ("s",))
        self.check_same(works, house, 1)
        self.assertEqual(works.cut("shop", ("cut", "fold", 0, 3)), ("shop", "two"))

    def test_within(self):
        works = Works(HOUSE)
        works.link("shop", ("cut", "done", 0, 9))
        house = works.house

        def work(some):
            self.assertIs(some, works)
            some.drop("two")
            some.undo()
            some.undo()
            self.assertEqual((some.house, len(some)), (HOUSE, 0))
            some.put(QUICK)
            self.assertEqual(some.within(lambda inner: (inner.drop("quick"), len(inner))), ((), 2))
            self.assertEqual((some.house.names, len(some)), (("shop", "two", "quick"), 1))
            return "done"

        self.assertEqual(works.within(work=work), "done")
        self.check_same(works, house, 1)
        self.assertEqual(works.face("shop"), face(house, "shop"))

        def wrong(some):
            some.put(QUICK)
            with self.assertRaises(NoPlace):
                some.within(lambda inner: (inner.drop("quick"), inner.drop("quick")))
            self.assertEqual(len(some), 2)
            some.drop("none")

        for _ in range(2):
            self.assertEqual(error_of(self, NoPlace, works.within, wrong).name, "none")
            self.check_same(works, house, 1)
        self.assertIs(works.undo(), True)
        self.check_same(works, HOUSE, 0)
        self.assertIsNone(works.within(lambda some: None))

    def test_two_works_are_apart(self):
        one, other = Works(HOUSE), Works(HOUSE)
        one.drop("two")
        self.assertEqual((len(other), other.house, HOUSE.names), (0, HOUSE, ("shop", "two")))
        with self.assertRaises(TypeError):
            iter(one)


if __name__ == "__main__":
    unittest.main()
