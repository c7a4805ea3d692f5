"""What is found by one quick walk of all places is what is found part by part."""

import random
import unittest

from waitworks.paths import layers
from waitworks.quick import MOST_WALKED, quick_rows
from waitworks.rows import Row, empty, unit
from waitworks.solving import _found_by_parts, solved

from models import some_row, things


def some_net(rng, lasts=5, marks=2):
    """Places in order, links and given rows by chance, where all goes."""
    while True:
        places = list("abcdef"[:rng.randint(1, 6)])
        given = {at: some_row(rng, first=rng.choice([0, 2, 4]), again=rng.choice([1, 2, 3]), more=rng.choice([0, 2, 9]), low=rng.choice([-5, 0]), nothing=0.3) for at in range(rng.randint(1, 3))}
        if rng.random() < 0.3:
            given[0] = rng.choice([unit(), empty()])
        links = [(rng.choice(places), rng.choice(places), rng.randint(0, marks), rng.randint(0, lasts)) for _ in range(rng.randint(0, 9))]
        order = list(layers(places, links))
        if len(order) == len(places):
            return order, links + [(at, rng.choice(places), rng.randint(0, 2), rng.randint(0, 3)) for at in given], given


class QuickTest(unittest.TestCase):
    def test_as_part_by_part(self):
        rng = random.Random(301)
        seen = {"quick": 0, "slow": 0, "turns": 0, "empty": 0, "late": 0}
        while min(seen.values()) < 40:
            order, links, given = some_net(rng, lasts=rng.choice([1, 5, 30]), marks=rng.choice([0, 1, 3]))
            wanted = _found_by_parts(order, links, given)
            found = quick_rows(order, links, given, order)
            if found is None:
                seen["slow"] += 1
            else:
                seen["quick"] += 1
                for place in order:
                    self.assertEqual(found.get(place, empty()), wanted[place])
                seen["turns"] += any([len(row.again) > 1 for row in found.values()])
                seen["late"] += any([len(row.first) > 3 for row in found.values()])
            seen["empty"] += any([wanted[place] == empty() for place in order])
            some = [place for place in order if rng.random() < 0.5]
            self.assertEqual(solved(order, links, given, some), {place: wanted[place] for place in some})

    def test_what_overtakes_late(self):
        # So long as this all goes on alike, but at last what grows more is ahead.
        for far in (3, 9, 20, 40, 100):
            given = {0: Row((), (0,), 5), 1: Row((), (far,), 4)}
            links = [(0, "a", 0, 0), (1, "a", 0, 0), ("a", "b", 1, 0), ("b", "b", 1, 4)]
            found = solved(["a", "b"], links, given, ["a", "b"])
            wanted = [max(5 * n, far + 4 * n) for n in range(150)]
            self.assertEqual(things(found["a"], 150), wanted)
            self.assertEqual(things(found["b"], 150), [None] + wanted[:-1])

    def test_what_is_led_on_late(self):
        # When a goes on alike for long, c is still at what came first: it grows more than all that comes to it.
        given = {0: Row([0, 7, 14, 21], [26], 5)}
        for marks in (1, 2, 3, 4):
            links = [(0, "a", marks, 0), ("a", "b", marks, 0), ("b", "c", marks, 2)]
            found = solved(["a", "b", "c"], links, given, ["a", "c"])
            self.assertEqual(found["a"], Row([None] * marks + [0, 7, 14, 21], [26], 5))
            self.assertEqual(found["c"], Row([None] * (3 * marks) + [2, 9, 16, 23], [28], 5))
            # Here something grows just so, but is not what reaches c at first.
            found = solved(["a", "b", "c"], [*links, (1, "c", 3 * marks, 0)], {**given, 1: Row((), (0,), 7)}, ["c"])
            self.assertEqual(found["c"], Row([None] * (3 * marks) + [2, 9, 16, 23], [28], 7))

    def test_long_turns(self):
        # What turns unlike for each place is left to the parts.
        links = [(0, place, 0, 0) for place in "abcd"] + [(place, place, turn, 7) for place, turn in zip("abcd", (5, 7, 8, 9))]
        found = solved(list("abcd"), links, {0: unit()}, "abcd")
        for place, turn in zip("abcd", (5, 7, 8, 9)):
            self.assertEqual(found[place], Row((), [0] * turn, 7))
        self.assertGreater(5 * 7 * 8 * 9, MOST_WALKED)

    def test_nothing_comes(self):
        self.assertEqual(solved(["a"], [("a", "a", 1, 3)], {}, ["a"]), {"a": empty()})
        self.assertEqual(solved(["a"], [(0, "a", 0, 3)], {0: empty()}, ["a"]), {"a": empty()})
        self.assertEqual(solved([], [], {}, []), {})


if __name__ == "__main__":
    unittest.main()
