"""Points 18 and 19: run papers."""

import random
import unittest

from waitworks.checker import holds
from waitworks.houses import House, Module
from waitworks.rows import Row, unit
from waitworks.runpapers import run_holds as held, run_paper
from waitworks.runs import run

from models import ANY_VALUES, HOUSE, flat_by_hand, some_arrivals, some_house


def run_holds(house, name, arrivals, value):
    """Whether a paper holds: the checker, that walks goings, says the same."""
    found = held(house=house, name=name, arrivals=arrivals, value=value)
    if holds(house, name, "run", (arrivals,), value) is not found:
        raise AssertionError((str(house), name, value))
    return found


class PaperTest(unittest.TestCase):
    def right(self, house, name, rows, value):
        """Whether a paper is right, by its own words."""
        places, links = flat_by_hand(house, name)
        begin, turn, pairs = value
        growths = dict(pairs)
        back = max([1] + [link[2] for link in links])
        if begin < back or any(growths[first] > growths[then] for first, then, _, _ in links):
            return False
        for place in places:
            row, grow = rows[place], growths[place]
            inlet = place in house[name].inlets
            until = begin + len(row.first) + len(row.again) * turn if inlet else begin
            for n in range(begin - back, until):
                if row.time(n + turn) != row.time(n) + grow:
                    return False
            for n in range(begin, begin + turn):
                came = [first for first, then, marks, lasts in links if then == place and growths[first] == grow
                        and rows[first].time(n - marks) + lasts == row.time(n)]
                if not (inlet or row.time(n) == grow == 0 or row.time(n) == row.time(n - 1) or came):
                    return False
        return True

    def test_told(self):
        paper = (1, 1, (("cut", 4), ("done", 4), ("fold", 4), ("order", 0)))
        self.assertIs(run_holds(HOUSE, "shop", [unit()], paper), True)
        self.assertIs(run_holds(house=HOUSE, name="shop", arrivals=(unit(),), value=paper), True)
        self.assertEqual(run_paper(House([Module("a", [], [], [], [])]), "a", [])[2], ())
        self.assertIs(run_holds(House([Module("a", [], [], [], [])]), "a", [], (1, 1, ())), True)
        self.assertIs(run_holds(House([Module("a", [], [], [], [])]), "a", [], (0, 1, ())), False)
        self.assertIs(run_holds(House([Module("a", [], [], [], [])]), "a", [], (1, 0, ())), False)

    def test_begin_is_not_ahead_of_the_marks(self):
        house = House([Module("m", [], [], ["s"], [("s", "s", 3, 5)])])
        for begin in range(6):
            self.assertIs(run_holds(house, "m", [], (begin, 3, (("s", 5),))), begin >= 3)

    def test_what_is_slower_reaches_nothing(self):
        # The slow station u is ahead of t up to going 9; at 10 they are even.
        house = House([Module("m", [], [], ["s", "t", "u"], [("t", "s", 0, 0), ("u", "s", 0, 20), ("t", "t", 1, 5), ("u", "u", 1, 3)])])
        for begin in range(1, 20):
            self.assertIs(run_holds(house, "m", [], (begin, 1, (("s", 5), ("t", 5), ("u", 3)))), begin >= 11)

    def test_even_though_links_are_slower(self):
        # All goes on by 5 from the beginning, but what reaches s at first is slower.
        house = House([Module("m", ["i", "j"], [], ["s"], [("i", "s", 0, 0), ("j", "s", 0, 0)])])
        arrivals = [Row([0, 5, 10], [15], 0), Row([0, 0, 0, 0], [20], 5)]
        self.assertEqual(str(dict(run(house, "m", arrivals))["s"]), "| 0 + 5")
        for begin in range(1, 10):
            self.assertIs(run_holds(house, "m", arrivals, (begin, 1, (("i", 0), ("j", 5), ("s", 5)))), begin >= 5)

    def test_what_goes_on_only_for_a_while(self):
        # What comes from t grows more: it gets ahead of what comes from u only later.
        house = House([Module("m", [], [], ["s", "t", "u"], [("t", "s", 0, 0), ("u", "s", 0, 20), ("t", "t", 1, 5), ("u", "u", 1, 3)])])
        for begin in range(1, 10):
            self.assertIs(run_holds(house, "m", [], (begin, 1, (("s", 3), ("t", 5), ("u", 3)))), False)
        # When a goes on alike for long, c is still at what came first: nothing that comes to it grows so.
        house = House([Module("m", ["i"], [], ["a", "b", "c"], [("i", "a", 3, 0), ("a", "b", 3, 0), ("b", "c", 3, 2)])])
        arrivals = [Row([0, 7, 14, 21], [26], 5)]
        for begin in range(20):
            self.assertIs(run_holds(house, "m", arrivals, (begin, 1, (("a", 5), ("b", 5), ("c", 7), ("i", 5)))), False)
            self.assertIs(run_holds(house, "m", arrivals, (begin, 1, (("a", 5), ("b", 5), ("c", 5), ("i", 5)))), begin >= 15)
        # Arrivals have to go on for ever, not for one turn only.
        house = House([Module("m", ["i"], [], ["s"], [("i", "s", 0, 1)])])
        for arrivals in ([Row([0, 5, 10, 15], [16], 0)], [Row([0, 5, 10, 15], [20], 6)], [Row([0, 5, 10, 15], [20, 25, 30, 36], 20)]):
            for begin in range(6):
                self.assertIs(run_holds(house, "m", arrivals, (begin, 1, (("i", 5), ("s", 5)))), False)
        # What stays at 0 reaches itself, and what stays with its going ahead, too.
        house = House([Module("m", [], [], ["s", "t"], [("s", "t", 2, 5)])])
        for begin in range(8):
            self.assertIs(run_holds(house, "m", [], (begin, 1, (("s", 0), ("t", 0)))), begin >= 4)

    def test_papers_that_are_made(self):
        rng = random.Random(2)
        for _ in range(200):
            house = some_house(rng, marks=rng.choice([1, 3]), lasts=rng.choice([1, 5, 20]))
            arrivals = some_arrivals(rng, house["m"])
            paper = run_paper(house=house, name="m", arrivals=arrivals)
            self.assertIsInstance(paper, tuple)
            self.assertIsInstance(paper[2], tuple)
            self.assertIs(run_holds(house, "m", arrivals, paper), True)
            self.assertTrue(self.right(house, "m", dict(run(house, "m", arrivals)), paper))

    def test_papers_with_something_otherwise(self):
        rng = random.Random(3)
        seen = {True: 0, False: 0}
        for _ in range(150):
            house = some_house(rng, modules=1, marks=rng.choice([1, 2]), lasts=rng.choice([1, 5]))
            arrivals = some_arrivals(rng, house["m"], first=2, again=2)
            rows = dict(run(house, "m", arrivals))
            begin, turn, growths = run_paper(house, "m", arrivals)
            for _ in range(20):
                many = rng.choice([1, 1, 2, 3])
                other = [(place, grow * many + (rng.random() < 0.05)) for place, grow in growths]
                value = (max(0, begin + rng.randint(-6, 2)), turn * many + (rng.random() < 0.1), tuple(other))
                wanted = self.right(house, "m", rows, value)
                self.assertIs(run_holds(house, "m", arrivals, value), wanted, (str(house), value))
                seen[wanted] += 1
        self.assertGreater(min(seen.values()), 300)

    def test_any_values(self):
        begin, turn, growths = paper = (1, 1, (("cut", 4), ("done", 4), ("fold", 4), ("order", 0)))
        for value in ANY_VALUES:
            self.assertIs(run_holds(HOUSE, "shop", [unit()], value), False)
            for other in ((value, turn, growths), (begin, value, growths)):
                if value is True or not isinstance(value, int) or value in (-1, 0):
                    self.assertIs(run_holds(HOUSE, "shop", [unit()], other), False)
            self.assertIs(run_holds(HOUSE, "shop", [unit()], (begin, turn, value)), False)
            for at in range(4):
                one = growths[:at] + (value,) + growths[at + 1:]
                self.assertIs(run_holds(HOUSE, "shop", [unit()], (begin, turn, one)), False)
                one = growths[:at] + ((value, growths[at][1]),) + growths[at + 1:]
                self.assertIs(run_holds(HOUSE, "shop", [unit()], (begin, turn, one)), value == growths[at][0])
                if value != growths[at][1] or isinstance(value, bool):
                    one = growths[:at] + ((growths[at][0], value),) + growths[at + 1:]
                    self.assertIs(run_holds(HOUSE, "shop", [unit()], (begin, turn, one)), False)
        for value in (list(paper), (begin, turn, list(growths)), (begin, turn, growths[:3]), (begin, turn, growths + growths[:1]),
                      (begin, turn, growths[:3] + growths[2:]), (begin, turn, growths[::-1]), (begin, turn), (begin, turn, growths, 0),
                      (begin, turn, tuple([list(pair) for pair in growths])), (begin, turn, tuple([pair + (0,) for pair in growths])),
                      (begin, turn, dict(growths)), (True, turn, growths), (begin, True, growths), (-1, turn, growths)):
            self.assertIs(run_holds(HOUSE, "shop", [unit()], value), False)

    def test_growth_of_no_number(self):
        house = House([Module("m", [], [], ["s"], [])])
        self.assertIs(run_holds(house, "m", [], (1, 1, (("s", 0),))), True)
        self.assertIs(run_holds(house, "m", [], (1, 1, (("s", False),))), False)
        self.assertIs(run_holds(house, "m", [], (1, 1, (("s", -1),))), False)

    def test_papers_far_out(self):
        growths = (("cut", 4 * 10 ** 4), ("done", 4 * 10 ** 4), ("fold", 4 * 10 ** 4), ("order", 0))
        self.assertIs(run_holds(HOUSE, "shop", [unit()], (10 ** 4, 10 ** 4, growths)), True)
        self.assertIs(run_holds(HOUSE, "shop", [Row([], [0, 1], 9)], (10 ** 4, 10 ** 4, growths)), False)


if __name__ == "__main__":
    unittest.main()
