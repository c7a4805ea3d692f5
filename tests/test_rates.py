"""Points 21 and 22: rates, the rings that hold places up, and rate papers."""

import random
import unittest
from fractions import Fraction

from waitworks.errors import NoPlace
from waitworks.houses import House, Module
from waitworks.ratepapers import rate_holds, rate_paper
from waitworks.rates import binding, paces, rate, room_for, slow_ring
from waitworks.rows import unit
from waitworks.runs import run

from models import ANY_VALUES, HOUSE, feeders_by_hand, flat_by_hand, rings_by_hand, some_house

RING = (("cut", "fold", 0, 3), ("fold", "cut", 1, 1))


def ratio_of(ring):
    return Fraction(sum([link[3] for link in ring]), sum([link[2] for link in ring]))


def pair_of(ratio):
    return (ratio.numerator, ratio.denominator)


def rings_that_feed(links, place):
    fed = feeders_by_hand(links, place)
    return [ring for ring in rings_by_hand(links) if ring[0][0] in fed]


def turned(ring):
    """A ring with its least place ahead."""
    at = min(range(len(ring)), key=lambda k: ring[k][0])
    return ring[at:] + ring[:at]


def some_houses(seed, many, most=8):
    rng = random.Random(seed)
    for _ in range(many):
        house = some_house(rng, lasts=rng.choice([0, 2, 6]), links=most)
        places, links = flat_by_hand(house, "m")
        if len(links) <= 14:
            yield rng, house, places, links


class RateTest(unittest.TestCase):
    def test_by_hand(self):
        kinds = {}
        for _, house, places, links in some_houses(1, 250):
            for place in places:
                rings = rings_that_feed(links, place)
                best = max([ratio_of(ring) for ring in rings], default=Fraction(0))
                self.assertEqual(rate(house, "m", place), pair_of(best))
                ring = slow_ring(house=house, name="m", place=place)
                slow = [one for one in rings if ratio_of(one) == best]
                if slow:
                    self.assertIn(turned(ring), slow)
                else:
                    self.assertEqual(ring, ())
                self.assertIsInstance(ring, tuple)
                wanted = tuple([at for at, link in enumerate(links) if any(link in one for one in slow)])
                self.assertEqual(binding(house, "m", place), wanted)
                kinds[len(slow) > 0, best > 0] = kinds.get((len(slow) > 0, best > 0), 0) + 1
            self.assertEqual(paces(house, "m"), tuple([(place, rate(house, "m", place)) for place in places]))
        self.assertGreater(min([kinds[key] for key in ((True, True), (True, False), (False, False))]), 50)

    def test_room_for(self):
        kinds = {"bound": 0, "some": 0, "none": 0}
        for rng, house, places, links in some_houses(2, 300, 13):
            if not links:
                continue
            for place in places:
                at = rng.randrange(len(links))
                rings = [ring for ring in rings_that_feed(links, place) if links[at] in ring]
                best = max([ratio_of(ring) for ring in rings_that_feed(links, place)], default=Fraction(0))
                if not rings:
                    self.assertIsNone(room_for(house, "m", place, at))
                    kinds["none"] += 1
                    continue
                room = min([(best * sum([link[2] for link in ring]) - sum([link[3] for link in ring])) // 1 for ring in rings])
                self.assertEqual(room_for(house=house, name="m", place=place, at=at), room)
                kinds["some" if room else "bound"] += 1
        self.assertGreater(min(kinds.values()), 20)

    def test_rate_is_how_a_place_goes(self):
        for _, house, places, _ in some_houses(3, 100):
            for place, row in run(house, "m", [unit() for _ in house["m"].inlets]):
                self.assertEqual(rate(house, "m", place), row.rate)

    def test_told(self):
        self.assertEqual(rate(house=HOUSE, name="shop", place="done"), (4, 1))
        self.assertEqual(rate(HOUSE, "shop", "order"), (0, 1))
        self.assertEqual(turned(slow_ring(HOUSE, "shop", "done")), RING)
        self.assertEqual(slow_ring(HOUSE, "shop", "order"), ())
        self.assertEqual(binding(house=HOUSE, name="shop", place="done"), (0, 1))
        self.assertEqual(binding(HOUSE, "shop", "order"), ())
        self.assertEqual([room_for(HOUSE, "shop", "done", at) for at in range(4)], [0, 0, None, None])
        self.assertEqual([room_for(HOUSE, "shop", "order", at) for at in range(4)], [None] * 4)
        self.assertEqual(paces(house=HOUSE, name="shop"), (("cut", (4, 1)), ("done", (4, 1)), ("fold", (4, 1)), ("order", (0, 1))))
        self.assertEqual(paces(House([Module("a", [], [], [], [])]), "a"), ())

    def test_rings_with_several_marks(self):
        links = [("s", "t", 2, 3), ("t", "s", 1, 4), ("t", "t", 3, 6), ("u", "u", 2, 5), ("u", "o", 0, 0), ("s", "t", 2, 1), ("s", "t", 2, 3)]
        house = House([Module("m", [], ["o"], ["s", "t", "u"], links)])
        self.assertEqual(paces(house, "m"), (("o", (5, 2)), ("s", (7, 3)), ("t", (7, 3)), ("u", (5, 2))))
        # Ascending: s t 2 1, s t 2 3, s t 2 3, t s 1 4, t t 3 6, u o 0 0, u u 2 5.
        self.assertEqual(binding(house, "m", "s"), (1, 2, 3))
        self.assertEqual(binding(house, "m", "o"), (6,))
        self.assertEqual([room_for(house, "m", "s", at) for at in range(7)], [2, 0, 0, 0, 1, None, None])
        self.assertEqual([room_for(house, "m", "o", at) for at in range(7)], [None] * 6 + [0])

    def test_parts_of_room_are_left_out(self):
        # The ratio is 5 / 2, so that t can last two and a half, and s seven and a half.
        links = [("u", "u", 2, 5), ("t", "t", 1, 0), ("s", "s", 3, 0), ("u", "o", 0, 0), ("t", "o", 0, 0), ("s", "o", 0, 0)]
        house = House([Module("m", [], ["o"], ["s", "t", "u"], links)])
        self.assertEqual([room_for(house, "m", "o", at) for at in range(6)], [None, 7, None, 2, None, 0])

    def test_ratio_of_nothing(self):
        house = House([Module("m", [], ["o"], ["s", "t"], [("s", "s", 1, 0), ("s", "o", 0, 3), ("t", "o", 1, 2)])])
        self.assertEqual(rate(house, "m", "o"), (0, 1))
        self.assertEqual(slow_ring(house, "m", "o"), (("s", "s", 1, 0),))
        self.assertEqual(slow_ring(house, "m", "t"), ())
        self.assertEqual(binding(house, "m", "o"), (1,))
        self.assertEqual(binding(house, "m", "t"), ())
        self.assertEqual([room_for(house, "m", "o", at) for at in range(3)], [None, 0, None])

    def test_no_place(self):
        for value in ANY_VALUES:
            for ask in (rate, slow_ring, binding, rate_paper, lambda *of: room_for(*of, 0), lambda *of: rate_holds(*of, None)):
                if value != "shop":
                    with self.assertRaises(NoPlace) as caught:
                        ask(HOUSE, value, 5)
                    self.assertIs(caught.exception.name, value)
                if value != "order":
                    with self.assertRaises(NoPlace) as caught:
                        ask(HOUSE, "shop", value)
                    self.assertIs(caught.exception.name, value)
            if value != "shop":
                with self.assertRaises(NoPlace) as caught:
                    paces(HOUSE, value)
                self.assertIs(caught.exception.name, value)


class PaperTest(unittest.TestCase):
    def right(self, links, place, value):
        """Whether a ring and heights are a right paper, by its own words."""
        ring, pairs = value
        fed = sorted(feeders_by_hand(links, place))
        if [pair[0] for pair in pairs] != fed or (ring and turned(ring) not in rings_that_feed(links, place)):
            return False
        ratio, heights = ratio_of(ring) if ring else Fraction(0), dict(pairs)
        top, bottom = pair_of(ratio)
        return all(heights[then] >= heights[first] + bottom * lasts - top * marks
                   for first, then, marks, lasts in links if first in fed and then in fed)

    def test_papers_that_are_made(self):
        for _, house, places, links in some_houses(4, 150):
            for place in places:
                paper = rate_paper(house=house, name="m", place=place)
                self.assertIsInstance(paper, tuple)
                self.assertIsInstance(paper[0], tuple)
                self.assertIsInstance(paper[1], tuple)
                self.assertIs(rate_holds(house, "m", place, paper), True)
                self.assertTrue(self.right(links, place, paper))
                self.assertEqual(pair_of(ratio_of(paper[0])) if paper[0] else (0, 1), rate(house, "m", place))

    def test_papers_with_something_otherwise(self):
        seen = {True: 0, False: 0}
        for rng, house, places, links in some_houses(5, 150):
            for place in places:
                ring, heights = rate_paper(house, "m", place)
                rings = rings_by_hand(links)
                for _ in range(4):
                    other = list(heights)
                    for _ in range(rng.randint(0, 2)):
                        at = rng.randrange(len(other))
                        other[at] = (other[at][0], other[at][1] + rng.choice([-2, -1, 1, 2]))
                    one = ring[1:] + ring[:1]
                    if rng.random() < 0.3:
                        one = rng.choice(rings + [()])
                    value = (one, tuple(other))
                    wanted = self.right(links, place, value)
                    self.assertIs(rate_holds(house, "m", place, value), wanted)
                    seen[wanted] += 1
        self.assertGreater(min(seen.values()), 100)

    def test_told(self):
        heights = (("cut", 0), ("fold", 3), ("order", 0))
        self.assertIs(rate_holds(HOUSE, "shop", "cut", (RING, heights)), True)
        self.assertIs(rate_holds(house=HOUSE, name="shop", place="cut", value=(RING[::-1], heights)), True)
        self.assertIs(rate_holds(HOUSE, "shop", "cut", (RING, (("cut", 1), ("fold", 4), ("order", -7)))), True)
        for ring in ((), RING[:1], RING[1:], RING + RING, list(RING), (list(RING[0]), RING[1]), (("cut", "fold", False, 3), RING[1]),
                     (RING[0], ("fold", "cut", True, True)), (("cut", "fold", 0, 4), RING[1]), (("cut", "cut", 1, 4),), None, 0,
                     (("order", "cut", 0, 0),), RING[:1] + (("fold", "done", 0, 2),)):
            self.assertIs(rate_holds(HOUSE, "shop", "cut", (ring, heights)), False)
        for other in (heights[:2], heights[1:], heights[::-1], heights + heights[2:], heights[:1] + heights, list(heights), (), None,
                      (("cut", 0), ("done", 9), ("fold", 3), ("order", 0)), (["cut", 0],) + heights[1:], (("cut", False),) + heights[1:],
                      (("cut", 0, 0),) + heights[1:], (("cut", 1),) + heights[1:], heights[:1] + (("fold", 2),) + heights[2:],
                      heights[:1] + (("fold", 4),) + heights[2:], heights[:2] + (("order", 1),), (("cut", None),) + heights[1:],
                      (("cut", "0"),) + heights[1:], dict(heights)):
            self.assertIs(rate_holds(HOUSE, "shop", "cut", (RING, other)), False)
        for value in ((RING,), (RING, heights, 0), [RING, heights], RING, heights, ()):
            self.assertIs(rate_holds(HOUSE, "shop", "cut", value), False)

    def test_without_rings(self):
        self.assertEqual(rate_paper(HOUSE, "shop", "order")[0], ())
        self.assertIs(rate_holds(HOUSE, "shop", "order", ((), (("order", -5),))), True)
        self.assertIs(rate_holds(HOUSE, "shop", "order", (RING, (("order", 0),))), False)
        still = House([Module("m", [], [], ["s"], [("s", "s", 1, 0)])])
        self.assertIs(rate_holds(still, "m", "s", ((), (("s", 3),))), True)
        self.assertIs(rate_holds(still, "m", "s", ((("s", "s", 1, 0),), (("s", 3),))), True)

    def test_rings_that_do_not_feed(self):
        links = [("s", "s", 1, 2), ("t", "t", 1, 5), ("s", "o", 0, 1)]
        house = House([Module("m", [], ["o"], ["s", "t"], links)])
        heights = (("o", 1), ("s", 0))
        self.assertIs(rate_holds(house, "m", "o", ((links[0],), heights)), True)
        self.assertIs(rate_holds(house, "m", "o", ((links[1],), heights)), False)

    def test_any_values(self):
        heights = (("cut", 0), ("fold", 3), ("order", 0))
        for value in ANY_VALUES:
            for other in (value, (value, heights), (RING, value), ((value,), heights), (RING, (value,) * 3), (RING, heights[:2] + (value,)),
                          ((value,) + RING[1:], heights)):
                self.assertIs(rate_holds(HOUSE, "shop", "cut", other), False)
            if value is not False and value != 0:
                self.assertIs(rate_holds(HOUSE, "shop", "cut", (RING, (("cut", value),) + heights[1:])), False)


if __name__ == "__main__":
    unittest.main()
