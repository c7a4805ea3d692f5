"""Points 10, 11 and 12: modules and houses made, refused, exchanged, told as texts and read."""

import random
import unittest

from waitworks.errors import InvalidHouse, InvalidModule, InvalidText, NeverGoes, NoPlace, WaitError
from waitworks.houses import House, Module
from waitworks.rows import Row

from models import ANY_VALUES, HOUSE, SHOP, STREET, some_house

LINKS = [("i", "s", 0, 3), ("s", "o", 1, 0), ("s", "c.in", 0, 0), ("c.out", "o", 2, 5), ("c.out", "c.in", 1, 1)]
SHOP_TEXT = "module shop\nin order\nout done\nat cut fold\nlink order cut 0 0\nlink cut fold 0 3\nlink fold done 0 2\nlink fold cut 1 1"
STREET_TEXT = "module two\nin in\nout out\nuse a shop\nuse b shop\nlink in a.order 0 0\nlink a.done b.order 0 1\nlink b.done out 0 0"


class ModuleTest(unittest.TestCase):
    def refused(self, word, *arguments):
        with self.assertRaises(InvalidModule) as caught:
            Module(*arguments)
        self.assertEqual(caught.exception.word, word, arguments)
        self.assertIsInstance(caught.exception, WaitError)

    def test_attributes(self):
        names, links, calls = [["i"], ["o"], ["s"]], list(LINKS), [("c", "part")]
        module = Module("m", *names, links, calls)
        for some in (*names, links, calls):
            some.clear()
        self.assertEqual((module.name, module.inlets, module.outlets, module.stations), ("m", ("i",), ("o",), ("s",)))
        self.assertEqual((module.links, module.calls), (tuple(LINKS), (("c", "part"),)))
        for thing in (module.inlets, module.outlets, module.stations, module.links, module.calls, *module.links, *module.calls):
            self.assertIsInstance(thing, tuple)
        same = Module(name="m", inlets=("i",), outlets=("o",), stations=("s",), links=tuple(LINKS), calls=(("c", "part"),))
        self.assertTrue(module == same)
        self.assertFalse(module != same)
        self.assertEqual(Module("m", [], [], [], []).calls, ())

    def test_equal(self):
        module = Module("m", ["i"], ["o"], ["s", "t"], [("s", "o", 0, 0), ("s", "o", 0, 1)], [("c", "p"), ("d", "p")])
        for other in (
            Module("n", ["i"], ["o"], ["s", "t"], [("s", "o", 0, 0), ("s", "o", 0, 1)], [("c", "p"), ("d", "p")]),
            Module("m", [], ["o"], ["s", "t"], [("s", "o", 0, 0), ("s", "o", 0, 1)], [("c", "p"), ("d", "p")]),
            Module("m", ["i"], ["o", "p"], ["s", "t"], [("s", "o", 0, 0), ("s", "o", 0, 1)], [("c", "p"), ("d", "p")]),
            Module("m", ["i"], ["o"], ["t", "s"], [("s", "o", 0, 0), ("s", "o", 0, 1)], [("c", "p"), ("d", "p")]),
            Module("m", ["i"], ["o"], ["s", "t"], [("s", "o", 0, 1), ("s", "o", 0, 0)], [("c", "p"), ("d", "p")]),
            Module("m", ["i"], ["o"], ["s", "t"], [("s", "o", 0, 0)], [("c", "p"), ("d", "p")]),
            Module("m", ["i"], ["o"], ["s", "t"], [("s", "o", 0, 0), ("s", "o", 0, 1)], [("d", "p"), ("c", "p")]),
            Module("m", ["i"], ["o"], ["s", "t"], [("s", "o", 0, 0), ("s", "o", 0, 1)], [("c", "p")]),
            HOUSE, None, "m", str(module),
        ):
            self.assertFalse(module == other)
            self.assertTrue(module != other)

    def test_is_not_iterable(self):
        for thing in (SHOP, HOUSE):
            with self.assertRaises(TypeError):
                iter(thing)
            with self.assertRaises(TypeError):
                list(thing)

    def test_without_anything(self):
        module = Module("a", [], [], [], [])
        self.assertEqual(str(module), "module a")
        self.assertEqual(Module.read("module a"), module)
        self.assertEqual(House([module]).names, ("a",))

    def test_name(self):
        for name in (None, 1, "", "A", "a1", "abcdef", "a.b", "a b", ["a"], ("a",), "\u00e4", "a\n", True):
            self.refused("name", name, 0, 0, 0, 0, 0)
        self.assertEqual(Module("abcde", [], [], [], []).name, "abcde")

    def test_names(self):
        for names in (None, 5, "", "ab", {}, ["a", "a"], ["a", 1], [None], [["a"]], ["A"], ["abcdef"], [True], ["a.b"], SHOP):
            self.refused("inlets", "m", names, 0, 0, 0, 0)
            self.refused("outlets", "m", [], names, 0, 0, 0)
            self.refused("stations", "m", [], [], names, 0, 0)
        self.refused("outlets", "m", ["a"], ["b", "a"], ["b"], [], [])
        self.refused("stations", "m", ["a"], ["b"], ["b"], 0, 0)
        self.refused("stations", "m", ["a"], ["b"], ["c", "a"], 0, 0)
        self.refused("calls", "m", ["a"], ["b"], ["c"], [], [("a", "p")])
        self.refused("calls", "m", ["a"], ["b"], ["c"], [], [("b", "p")])
        self.refused("calls", "m", ["a"], ["b"], ["c"], [], [("c", "p")])
        self.refused("calls", "m", ["a"], ["b"], ["c"], [], [("d", "p"), ("d", "q")])
        self.assertEqual(Module("m", ["m"], ["n"], ["o"], [], [("p", "m")]).inlets, ("m",))

    def test_links(self):
        def refused(link):
            self.refused("links", "m", ["i"], ["o"], ["s"], [("i", "s", 0, 0), link], [("c", "p")])

        for links in (None, 0, "", {}, SHOP):
            self.refused("links", "m", ["i"], ["o"], ["s"], links, 0)
        for link in (
            None, (), ("i", "s", 0), ("i", "s", 0, 0, 0), ["i", "s", 0, 0], "is00", (0, "s", 0, 0), ("i", 0, 0, 0),
            ("i", "s", -1, 0), ("i", "s", 0, -1), ("i", "s", True, 0), ("i", "s", 0, False), ("i", "s", None, 0),
            ("i", "s", "0", 0), ("i", "s", 0, 1.0), ("o", "s", 0, 0), ("s", "i", 0, 0), ("x", "s", 0, 0), ("s", "x", 0, 0),
            ("c", "s", 0, 0), ("s", "c", 0, 0), ("d.a", "s", 0, 0), ("s", "d.a", 0, 0), ("c.", "s", 0, 0), (".a", "s", 0, 0),
            ("c.A", "s", 0, 0), ("c.a.b", "s", 0, 0), ("s", "c.abcdef", 0, 0), ("s.a", "s", 0, 0), ("", "s", 0, 0),
            (("c", "a"), "s", 0, 0), ("c..a", "s", 0, 0), ("c.a ", "s", 0, 0), SHOP, Row([], [0]),
        ):
            refused(link)
        self.refused("links", "m", ["i"], ["o"], ["s"], [("c.a", "s", 0, 0)])
        self.refused("links", "m", ["i"], ["o"], ["s"], [("c.a", "s", 0, 0)], 5)
        self.refused("links", "m", ["i"], ["o"], ["s"], [("c.a", "s", 0, 0)], [("d", "p")])
        self.refused("calls", "m", ["i"], ["o"], ["s"], [("c.a", "s", 0, 0)], [("c", "p"), 5])
        twice = [("i", "s", 0, 0), ("i", "s", 0, 0), ("s", "s", 1, 10 ** 4), ("i", "o", 3, 0)]
        self.assertEqual(Module("m", ["i"], ["o"], ["s"], twice).links, tuple(twice))

    def test_calls(self):
        for calls in (None, 0, "", {}, "ab", ["ab"], [()], [("c",)], [("c", "p", "q")], [["c", "p"]], [("c", 1)], [(1, "p")],
                      [("c", "P")], [("C", "p")], [("c", "p"), None], [True], SHOP, [SHOP]):
            self.refused("calls", "m", [], [], [], [], calls)

    def test_any_values(self):
        for value in ANY_VALUES:
            names = isinstance(value, (list, tuple)) and value in ([], (), ["a"], ("a",))
            if not isinstance(value, str) or value not in ("a", "shop", "order"):
                self.refused("name", value, value, value, value, value, value)
            if not names:
                self.refused("inlets", "m", value, [], [], [])
                self.refused("outlets", "m", [], value, [], [])
                self.refused("stations", "m", [], [], value, [])
            if value not in ([], ()):
                self.refused("links", "m", [], [], [], value)
                self.refused("calls", "m", [], [], [], [], value)


class HouseTest(unittest.TestCase):
    def refused(self, at, modules):
        with self.assertRaises(InvalidHouse) as caught:
            House(modules)
        self.assertEqual(caught.exception.at, at)
        self.assertIsInstance(caught.exception, WaitError)

    def test_attributes(self):
        modules = [SHOP, STREET]
        house = House(modules)
        modules.clear()
        self.assertEqual((house.modules, house.names, len(house)), ((SHOP, STREET), ("shop", "two"), 2))
        self.assertIsInstance(house.modules, tuple)
        self.assertIsInstance(house.names, tuple)
        self.assertEqual(house["two"], STREET)
        self.assertEqual(House(modules=()).modules, ())
        self.assertEqual(len(House([])), 0)

    def test_equal(self):
        other = Module("a", [], [], [], [])
        self.assertTrue(House((SHOP, STREET)) == HOUSE)
        self.assertFalse(House((SHOP, STREET)) != HOUSE)
        for house in (House([SHOP]), House([]), House([SHOP, STREET, other]), House([SHOP, other]), (SHOP, STREET), None, str(HOUSE)):
            self.assertFalse(HOUSE == house)
        self.assertFalse(House([SHOP, other]) == House([other, SHOP]))

    def test_index(self):
        for value in (*ANY_VALUES, "two ", "TWO"):
            if value != "shop":
                with self.assertRaises(NoPlace) as caught:
                    HOUSE[value]
                self.assertIs(caught.exception.name, value)

    def test_refused(self):
        for value in ANY_VALUES:
            if not isinstance(value, (list, tuple)):
                self.refused(0, value)
            elif len(value) > 0:
                self.refused(0, value)
            if not isinstance(value, Module):
                self.refused(1, [SHOP, value])
        self.refused(1, [SHOP, SHOP])
        self.refused(0, [STREET, SHOP])
        self.refused(0, [STREET])
        self.refused(2, [SHOP, STREET, Module("shop", [], [], [], []), 5])
        self.refused(0, [Module("a", [], [], [], [], [("c", "a")])])
        self.refused(1, [SHOP, Module("a", [], [], [], [], [("b", "shop"), ("c", "two")])])

    def test_ends_behind_labels(self):
        calls = [("c", "shop")]
        for link in (("c.order", "s", 0, 0), ("c.cut", "s", 0, 0), ("s", "c.done", 0, 0), ("s", "c.cut", 0, 0), ("c.x", "s", 0, 0), ("s", "c.x", 0, 0)):
            self.refused(1, [SHOP, Module("m", [], [], ["s"], [link], calls)])
        right = Module("m", [], [], ["s"], [("s", "c.order", 0, 0), ("c.done", "s", 1, 0), ("c.done", "c.order", 1, 0)], calls)
        self.assertEqual(len(House([SHOP, right])), 2)

    def test_never_goes(self):
        def ring_of(modules):
            with self.assertRaises(NeverGoes) as caught:
                House(modules)
            return caught.exception.ring

        self.assertEqual(ring_of([Module("a", [], [], ["x"], [("x", "x", 0, 0)])]), ("x",))
        self.assertEqual(ring_of([Module("a", [], [], ["x", "y"], [("y", "x", 0, 1), ("x", "y", 0, 0)])]), ("x", "y"))
        three = Module("a", ["i"], ["o"], ["x", "y", "z"], [("z", "y", 0, 1), ("y", "x", 0, 0), ("x", "z", 0, 0), ("i", "z", 0, 0), ("z", "o", 0, 0)])
        self.assertEqual(ring_of([three]), ("x", "z", "y"))
        self.assertEqual(ring_of([SHOP, three, Module("b", [], [], ["q"], [("q", "q", 0, 0)])]), ("x", "z", "y"))
        through = Module("m", [], [], ["a"], [("a", "c.order", 0, 0), ("c.done", "a", 0, 0)], [("c", "shop")])
        self.assertEqual(ring_of([SHOP, through]), ("a", "c.order", "c.cut", "c.fold", "c.done"))
        # What is no module of the house comes first.
        self.refused(2, [SHOP, through, 5])
        self.assertEqual(len(House([Module("a", [], [], ["x"], [("x", "x", 1, 0)])])), 1)

    def test_some_ring(self):
        links = [("a", "b", 0, 0), ("b", "a", 0, 1), ("b", "c", 0, 0), ("c", "b", 0, 0), ("d", "a", 0, 0), ("c", "e", 0, 0)]
        with self.assertRaises(NeverGoes) as caught:
            House([Module("m", [], [], ["e", "d", "c", "b", "a"], links)])
        self.assertIn(caught.exception.ring, (("a", "b"), ("b", "c")))

    def test_with_module(self):
        fast = Module("shop", ["order"], ["done"], [], [("order", "done", 0, 1)])
        part = Module("part", [], [], [], [])
        self.assertEqual(HOUSE.with_module(fast), House([fast, STREET]))
        self.assertEqual(HOUSE.with_module(module=part), House([SHOP, STREET, part]))
        self.assertEqual(HOUSE, House([SHOP, STREET]))
        for value in ANY_VALUES:
            if not isinstance(value, Module):
                with self.assertRaises(InvalidHouse) as caught:
                    HOUSE.with_module(value)
                self.assertEqual(caught.exception.at, 2)
        with self.assertRaises(InvalidHouse) as caught:
            HOUSE.with_module(Module("shop", ["order"], [], [], []))
        self.assertEqual(caught.exception.at, 1)
        with self.assertRaises(InvalidHouse) as caught:
            HOUSE.with_module(Module("shop", [], [], [], [], [("c", "two")]))
        self.assertEqual(caught.exception.at, 0)
        with self.assertRaises(NeverGoes) as caught:
            HOUSE.with_module(Module("x", [], [], ["s"], [("s", "s", 0, 1)]))
        self.assertEqual(caught.exception.ring, ("s",))

    def test_without(self):
        self.assertEqual(HOUSE.without("two"), House([SHOP]))
        self.assertEqual(HOUSE.without(name="two").without("shop"), House([]))
        with self.assertRaises(InvalidHouse) as caught:
            HOUSE.without("shop")
        self.assertEqual(caught.exception.at, 0)
        for value in ANY_VALUES:
            if value != "shop":
                with self.assertRaises(NoPlace) as caught:
                    HOUSE.without(value)
                self.assertIs(caught.exception.name, value)


class TextTest(unittest.TestCase):
    def wrong_at(self, at, text):
        with self.assertRaises(InvalidText) as caught:
            House.read(text)
        self.assertEqual(caught.exception.at, at, text)

    def test_told(self):
        self.assertEqual(str(SHOP), SHOP_TEXT)
        self.assertEqual(str(STREET), STREET_TEXT)
        self.assertEqual(str(HOUSE), SHOP_TEXT + "\n" + STREET_TEXT)
        self.assertEqual(str(House([])), "")
        self.assertEqual(str(Module("m", [], ["o", "p"], [], [], [("c", "a")])), "module m\nout o p\nuse c a")

    def test_read(self):
        self.assertEqual(Module.read(SHOP_TEXT), SHOP)
        self.assertEqual(Module.read(text=STREET_TEXT), STREET)
        self.assertEqual(House.read(text=SHOP_TEXT + "\n" + STREET_TEXT), HOUSE)
        self.assertEqual(House.read(""), House([]))
        self.assertEqual(Module.read("module m\nat s\nlink s s 999 999").links, (("s", "s", 999, 999),))

    def test_read_is_told_back(self):
        rng = random.Random(1)
        for _ in range(100):
            house = some_house(rng, modules=3)
            self.assertEqual(House.read(str(house)), house)
            self.assertEqual(Module.read(str(house["m"])), house["m"])

    def test_no_text(self):
        for value in ANY_VALUES:
            if not isinstance(value, str):
                self.wrong_at(0, value)
                with self.assertRaises(InvalidText) as caught:
                    Module.read(value)
                self.assertEqual(caught.exception.at, 0)
        with self.assertRaises(InvalidText) as caught:
            Module.read("")
        self.assertEqual(caught.exception.at, 0)

    def test_lines(self):
        for line in (
            "", " ", "in", "out", "at", "in ", "in  a", " in a", "in a ", "in A", "in a1", "in abcdef", "in a.b", "IN a", "i a", "station a",
            "use c", "use c p q", "use c.d p", "use c P", "link a b 0", "link a b 0 0 0", "link a b 0 00", "link a b 00 0",
            "link a b 0 1000", "link a b 1000 0", "link a b -1 0", "link a b 0 x", "link a  b 0 0", "link a b. 0 0", "link .a b 0 0",
            "link a.b.c d 0 0", "link a b +1 0", "link a B 0 0", "link a b 0 \u0663", "module", "module a b", "module A", "# a", "in\ta",
            "in a\r", "link a b 0 0 ", "use", "link",
        ):
            self.wrong_at(1, "module m\n" + line)
            self.wrong_at(2, "module m\nat a b\n" + line)
            with self.assertRaises(InvalidText) as caught:
                Module.read("module m\n" + line + "\nmodule n")
            self.assertEqual(caught.exception.at, 1)

    def test_order_of_lines(self):
        lines = ["in a", "out b", "at c", "use d p", "link a b 0 0"]
        for one in range(5):
            self.wrong_at(0, lines[one])
            for other in range(5):
                text = "module m\n" + lines[one] + "\n" + lines[other]
                if one > other or (one == other and one < 3):
                    self.wrong_at(2, text)
                    self.wrong_at(2, text + "\n!")
        self.wrong_at(0, "\nmodule m")
        self.wrong_at(1, "module m\n")
        self.wrong_at(3, "module m\nmodule n\nmodule o\nlink a b 0 0 0\n!")
        self.wrong_at(4, "module m\nlink a b 0 0\nmodule n\nin a\nin b")

    def test_a_second_module(self):
        for text, at in (("module a\nmodule b", 1), ("module a\nin i\nmodule b\n!", 2), ("module a\n!\nmodule b", 1), ("in a\nmodule b", 0), ("module a\nmodule a", 1)):
            with self.assertRaises(InvalidText) as caught:
                Module.read(text)
            self.assertEqual(caught.exception.at, at)

    def test_texts_of_what_is_wrong(self):
        for text, word in (
            ("module m\nin a a", "inlets"), ("module m\nin a\nout a", "outlets"), ("module m\nat a\nlink a b 0 0", "links"),
            ("module m\nat a\nuse a p", "calls"), ("module m\nlink c.a c.b 0 0", "links"), ("module m\nuse c p\nuse c p", "calls"),
            ("module m\nin a\nat b b\nlink x y 0 0", "stations"),
        ):
            for read in (Module.read, House.read):
                with self.assertRaises(InvalidModule) as caught:
                    read(text)
                self.assertEqual(caught.exception.word, word)
        with self.assertRaises(InvalidModule) as caught:
            House.read("module m\nmodule m\nmodule n\nin a a\nmodule o\nat b b")
        self.assertEqual(caught.exception.word, "inlets")
        self.wrong_at(3, "module m\nin a a\nmodule n\nin")
        with self.assertRaises(InvalidHouse) as caught:
            House.read("module m\nmodule n\nmodule m")
        self.assertEqual(caught.exception.at, 2)
        with self.assertRaises(InvalidHouse) as caught:
            House.read("module m\nuse c n")
        self.assertEqual(caught.exception.at, 0)
        with self.assertRaises(NeverGoes) as caught:
            House.read("module m\nmodule n\nat a b\nlink b a 0 0\nlink a b 0 0")
        self.assertEqual(caught.exception.ring, ("a", "b"))


if __name__ == "__main__":
    unittest.main()
