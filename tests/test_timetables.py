"""Points 55 to 58: timetables, their clashes and their margins."""

import random
import unittest
from fractions import Fraction

from waitworks.errors import NoPlace
from waitworks.flats import flat
from waitworks.houses import House, Module
from waitworks.timetables import (
    clash, clash_holds, latest_times, least_round, margin, margin_holds, margin_paper, slowest, span, spared, timetable,
    timetable_holds, too_slow,
)

from models import ANY_VALUES, HOUSE, busy_house, error_of, rings_by_hand, some_house

TABLE = (("cut", 0), ("done", 5), ("fold", 3), ("order", 0))


def small_house(rng, lasts=5):
    return some_house(rng, lasts=lasts) if rng.random() < 0.4 else busy_house(rng, inlets="i", stations=3, lasts=lasts, more=rng.randint(0, 3), loose=0.2)


def longest_by_hand(links, beat, more=0):
    """The greatest sums of lasts less beats on ways, for pairs of places, where no ring gains: by more and more links."""
    places = {end for link in links for end in link[:2]}
    found = {(place, place): 0 for place in places}
    for _ in places:
        for (start, end), length in list(found.items()):
            for first, then, marks, lasts in links:
                if first == end:
                    far = length + lasts + more - beat * marks
                    found[start, then] = max(far, found.get((start, then), far))
    return found


def over(ring, beat, more=0):
    return sum([link[3] + more - beat * link[2] for link in ring])


def chosen_beat(rng, rings):
    """A beat by chance: often just below, at or above the least round."""
    rounds = [Fraction(over(ring, 0), sum([link[2] for link in ring])) for ring in rings]
    exact = max(rounds, default=Fraction(0))
    return rng.choice([0, max(0, int(exact) - rng.choice([0, 1])), -(-exact.numerator // exact.denominator), int(exact) + 1, rng.randint(0, 9)])


def kept(links, beat, times, more=0):
    return all([times[then] + beat * marks >= times[first] + lasts + more for first, then, marks, lasts in links])


class RoundTest(unittest.TestCase):
    def test_by_rings(self):
        rng = random.Random(141)
        seen = {"none": 0, "some": 0, "slow": 0, "in time": 0}
        for _ in range(200):
            house = small_house(rng)
            places, links = flat(house, "m")
            rings = rings_by_hand(links)
            rounds = [Fraction(over(ring, 0), sum([link[2] for link in ring])) for ring in rings]
            value, ring = least_round(house=house, name="m"), slowest(house=house, name="m")
            if not rings:
                seen["none"] += 1
                self.assertEqual((value, ring), ((0, 1), None))
            else:
                seen["some"] += 1
                self.assertEqual(value, (max(rounds).numerator, max(rounds).denominator))
                self.check_ring(ring, links)
                self.assertEqual(Fraction(over(ring, 0), sum([link[2] for link in ring])), max(rounds))
            beat = chosen_beat(rng, rings)
            slow = too_slow(house=house, name="m", beat=beat)
            self.assertIs(slow is None, not rings or max(rounds) <= beat)
            seen["in time" if slow is None else "slow"] += 1
            if slow is not None:
                self.check_ring(slow, links)
                self.assertGreater(over(slow, beat), 0)
        self.assertGreater(min(seen.values()), 20)

    def check_ring(self, ring, links):
        self.assertIsInstance(ring, tuple)
        begins = [link[0] for link in ring]
        self.assertEqual(len(set(begins)), len(begins))
        for link, behind in zip(ring, ring[1:] + ring[:1]):
            self.assertIn(link, links)
            self.assertEqual(link[1], behind[0])

    def test_told(self):
        self.assertEqual(least_round(HOUSE, "shop"), (4, 1))
        self.assertEqual(sorted(slowest(HOUSE, "shop")), [("cut", "fold", 0, 3), ("fold", "cut", 1, 1)])
        self.assertEqual((least_round(House([Module("m", ["i"], ["o"], [], [("i", "o", 0, 9)])]), "m")), (0, 1))
        self.assertEqual(least_round(House([Module("m", [], [], ["s"], [("s", "s", 3, 0)])]), "m"), (0, 1))
        self.assertEqual(slowest(House([Module("m", [], [], ["s"], [("s", "s", 3, 0)])]), "m"), (("s", "s", 3, 0),))
        self.assertEqual(least_round(House([Module("m", [], [], ["s"], [("s", "s", 4, 6), ("s", "s", 3, 4)])]), "m"), (3, 2))
        self.assertIsNone(too_slow(HOUSE, "shop", 4))
        self.assertEqual(sorted(too_slow(HOUSE, "shop", 3)), [("cut", "fold", 0, 3), ("fold", "cut", 1, 1)])


class TableTest(unittest.TestCase):
    def test_by_hand(self):
        rng = random.Random(142)
        seen = {"none": 0, "some": 0, "wanted": 0}
        for _ in range(200):
            house = small_house(rng)
            places, links = flat(house, "m")
            rings = rings_by_hand(links)
            beat, more = chosen_beat(rng, rings), rng.choice([0, 0, 1, 3])
            wants = [(rng.choice(places), rng.randint(0, 30)) for _ in range(rng.randint(0, 3))] if places else []
            for found, extra, wanted in ((timetable(house=house, name="m", beat=beat, wants=wants), 0, wants),
                                         (spared(house=house, name="m", beat=beat, more=more), more, []),
                                         (timetable(house, "m", beat), 0, [])):
                if any([over(ring, beat, extra) > 0 for ring in rings]):
                    seen["none"] += 1
                    self.assertIsNone(found)
                    continue
                seen["wanted" if wanted else "some"] += 1
                starts = {place: max([0] + [number for one, number in wanted if one == place]) for place in places}
                longest = longest_by_hand(links, beat, extra)
                least = [(place, max([starts[place]] + [starts[start] + far for (start, end), far in longest.items() if end == place])) for place in places]
                self.assertEqual(found, tuple(least))
                self.assertTrue(kept(links, beat, dict(found), extra))
                self.assertIs(timetable_holds(house=house, name="m", beat=beat, value=found), True)
        self.assertGreater(min(seen.values()), 30)

    def test_holds(self):
        rng = random.Random(143)
        seen = {True: 0, False: 0}
        for _ in range(200):
            house = small_house(rng, lasts=2)
            places, links = flat(house, "m")
            beat = rng.randint(0, 4)
            value = timetable(house, "m", beat) or tuple([(place, rng.randint(0, 6)) for place in places])
            value = tuple([(place, time + rng.choice([0, 0, 0, 1, -1])) for place, time in value])
            wanted = kept(links, beat, dict(value)) and all([time >= 0 for _, time in value])
            self.assertIs(timetable_holds(house, "m", beat, value), wanted)
            seen[wanted] += 1
        self.assertGreater(min(seen.values()), 25)

    def test_any_values(self):
        self.assertIs(timetable_holds(HOUSE, "shop", 5, TABLE), True)
        self.assertIs(timetable_holds(HOUSE, "shop", 3, TABLE), False)
        for value in (TABLE[:3], TABLE + TABLE[3:], TABLE[1:] + TABLE[:1], list(TABLE), tuple([list(pair) for pair in TABLE]), (*TABLE[:3], ("order", False)),
                      (*TABLE[:3], ("order", -1)), (*TABLE[:3], ("order", None)), (*TABLE[:3], ("order", 0, 0)), (*TABLE[:3], ("x", 0)), (*TABLE[:3], ("order", 1))):
            self.assertIs(timetable_holds(HOUSE, "shop", 5, value), False)
        for value in ANY_VALUES:
            self.assertIs(timetable_holds(HOUSE, "shop", 5, value), False)
            self.assertIs(timetable_holds(HOUSE, "shop", 5, (*TABLE[:3], value)), False)
            for at in range(4):
                pair = (value, TABLE[at][1])
                self.assertIs(timetable_holds(HOUSE, "shop", 5, TABLE[:at] + (pair,) + TABLE[at + 1:]), value == TABLE[at][0])

    def test_told(self):
        self.assertEqual((timetable(HOUSE, "shop", 5), timetable(HOUSE, "shop", 3)), (TABLE, None))
        self.assertEqual(timetable(HOUSE, "shop", 4, [("done", 9), ("cut", 2)]), (("cut", 2), ("done", 9), ("fold", 5), ("order", 0)))
        self.assertEqual(timetable(HOUSE, "shop", 4, (("cut", 2), ("cut", 7), ("cut", 5))), (("cut", 7), ("done", 12), ("fold", 10), ("order", 0)))
        self.assertEqual(spared(HOUSE, "shop", 6, 1), (("cut", 1), ("done", 8), ("fold", 5), ("order", 0)))
        self.assertIsNone(spared(HOUSE, "shop", 5, 1))
        self.assertEqual(timetable(House([Module("m", [], [], [], [])]), "m", 0), ())
        zero = House([Module("m", [], [], ["s", "t"], [("s", "t", 0, 0), ("t", "s", 1, 0)])])
        self.assertEqual(timetable(zero, "m", 0, [("s", 3)]), (("s", 3), ("t", 3)))


class ClashTest(unittest.TestCase):
    def test_by_hand(self):
        rng = random.Random(144)
        seen = {"ring": 0, "way": 0, "none": 0, "no links": 0, "True": 0, "False": 0}
        for _ in range(300):
            house = small_house(rng)
            places, links = flat(house, "m")
            if not places:
                continue
            rings = rings_by_hand(links)
            beat = chosen_beat(rng, rings)
            wants = [(rng.choice(places), rng.randint(0, 9)) for _ in range(rng.randint(0, 3))]
            wishes = [(rng.choice(places), rng.randint(0, 25)) for _ in range(rng.randint(0, 3))]
            least = timetable(house, "m", beat, wants)
            found = clash(house=house, name="m", beat=beat, wants=wants, wishes=wishes)
            late = latest_times(house=house, name="m", beat=beat, wishes=wishes)
            if least is None:
                seen["ring"] += 1
                self.assertEqual(found[0], "ring")
                self.assertIsNone(late)
            elif all([dict(least)[place] <= number for place, number in wishes]):
                seen["none"] += 1
                self.assertIsNone(found)
                self.check_latest(late, places, links, beat, wishes)
            else:
                seen["way" if found[2] else "no links"] += 1
                self.assertEqual(found[0], "way")
            if found is not None:
                self.assertTrue(self.holds(links, beat, wants, wishes, found))
                self.assertIs(clash_holds(house=house, name="m", beat=beat, wants=wants, wishes=wishes, value=found), True)
            for value in self.others(rng, places, links, rings, found):
                wanted = self.holds(links, beat, wants, wishes, value)
                self.assertIs(clash_holds(house, "m", beat, wants, wishes, value), wanted)
                seen[str(wanted)] += 1
        self.assertGreater(min(seen.values()), 10)

    def others(self, rng, places, links, rings, found):
        values = [("way", rng.choice(places), ()) for _ in range(3)] + [("ring", ring) for ring in rings[:3]]
        for _ in range(3):
            way = []
            while links and len(way) < 4:
                steps = [link for link in links if not way or link[0] == way[-1][1]]
                if not steps or rng.random() < 0.2:
                    break
                way.append(rng.choice(steps))
            values.append(("way", way[0][0] if way else rng.choice(places), tuple(way)))
            values.append(("way", rng.choice(places), tuple(way)))
            values.append(("ring", tuple(way)))
        if found is not None:
            values.append((*found[:-1], found[-1][1:]))
            values.append((*found[:-1], found[-1] + found[-1][:1]))
        return values

    def holds(self, links, beat, wants, wishes, value):
        """Whether something of the right form is a paper, by its words."""
        way = value[-1]
        begins = [link[0] for link in way]
        if len(set(begins)) != len(begins) or any([one[1] != other[0] for one, other in zip(way, way[1:])]) or any([link not in links for link in way]):
            return False
        if value[0] == "ring":
            return len(way) > 0 and way[-1][1] == way[0][0] and over(way, beat) > 0
        if way and way[0][0] != value[1]:
            return False
        end = way[-1][1] if way else value[1]
        limits = [number for place, number in wishes if place == end]
        start = max([0] + [number for place, number in wants if place == value[1]])
        return len(limits) > 0 and start + over(way, beat) > min(limits)

    def check_latest(self, late, places, links, beat, wishes):
        if late is None:
            return
        longest = longest_by_hand(links, beat)
        for place in places:
            longest.setdefault((place, place), 0)
        wanted = []
        for place in places:
            bounds = [number - longest[place, end] for end, number in wishes if (place, end) in longest]
            if bounds:
                wanted.append((place, min(bounds)))
        self.assertEqual(late, tuple(wanted))

    def test_latest_times(self):
        rng = random.Random(145)
        seen = {"none": 0, "some": 0}
        for _ in range(200):
            house = small_house(rng)
            places, links = flat(house, "m")
            if not places:
                continue
            beat = chosen_beat(rng, rings_by_hand(links))
            wishes = [(rng.choice(places), rng.randint(0, 30)) for _ in range(rng.randint(0, 3))]
            late = latest_times(house, "m", beat, wishes)
            least = timetable(house, "m", beat)
            if least is None or any([dict(least)[place] > number for place, number in wishes]):
                seen["none"] += 1
                self.assertIsNone(late)
            else:
                seen["some"] += 1
                self.check_latest(late, places, links, beat, wishes)
                self.assertIsNotNone(late)
                # All of them at once, in a kept timetable.
                table = timetable(house, "m", beat, late)
                self.assertEqual([pair for pair in table if pair[0] in dict(late)], list(late))
        self.assertGreater(min(seen.values()), 40)

    def test_told(self):
        self.assertEqual(latest_times(HOUSE, "shop", 5, [("done", 9)]), (("cut", 4), ("done", 9), ("fold", 7), ("order", 4)))
        self.assertEqual(latest_times(HOUSE, "shop", 4, [("cut", 9), ("done", 9)]), (("cut", 4), ("done", 9), ("fold", 7), ("order", 4)))
        self.assertEqual(latest_times(HOUSE, "shop", 4, [("order", 3), ("order", 2)]), (("order", 2),))
        self.assertEqual((latest_times(HOUSE, "shop", 4, []), latest_times(HOUSE, "shop", 3, []), latest_times(HOUSE, "shop", 4, [("done", 4)])), ((), None, None))
        self.assertEqual(clash(HOUSE, "shop", 4, [], [("done", 4)])[0], "way")
        self.assertIsNone(clash(HOUSE, "shop", 4, [], [("done", 5)]))
        self.assertEqual(clash(HOUSE, "shop", 4, [("done", 6)], [("done", 5)]), ("way", "done", ()))
        self.assertEqual(clash(HOUSE, "shop", 4, [("cut", 1), ("cut", 0)], (("done", 9), ("done", 5))), ("way", "cut", (("cut", "fold", 0, 3), ("fold", "done", 0, 2))))
        self.assertEqual(clash(HOUSE, "shop", 3, [], [])[0], "ring")

    def test_any_values(self):
        ring = (("cut", "fold", 0, 3), ("fold", "cut", 1, 1))
        way = ("way", "cut", (("cut", "fold", 0, 3), ("fold", "done", 0, 2)))
        holds = lambda beat, value: clash_holds(HOUSE, "shop", beat, [("cut", 1)], [("done", 5)], value)
        self.assertEqual([holds(beat, ("ring", ring)) for beat in (3, 4)], [True, False])
        self.assertIs(holds(4, way), True)
        # A way can come back: it is gone on with no place being begun from twice.
        self.assertIs(holds(3, ("way", "fold", ring[1:] + ring[:1] + (("fold", "done", 0, 2),))), False)
        for value in (("ring", ring, ()), ("ring", ()), ["ring", ring], ("ring", list(ring)), ("ring", (list(ring[0]), ring[1])), ("way", ring), ("rings", ring),
                      (*way, ()), list(way), ("way", "cut", list(way[2])), ("way", "fold", way[2]), ("way", "cut", way[2][:1]), ("way", "x", ()), ("way", "cut", None),
                      ("way", "cut", (("cut", "fold", False, 3), ("fold", "done", 0, 2))), ("way", "cut", (("cut", "fold", 0, 9), ("fold", "done", 0, 2)))):
            self.assertIs(holds(3, value), False)
        for value in ANY_VALUES:
            self.assertIs(holds(3, value), False)
            self.assertIs(holds(3, ("ring", value)), False)
            self.assertIs(holds(3, (value, ring)), False)
            self.assertIs(holds(3, ("ring", (value, ring[1]))), False)
            for at in range(3):
                self.assertIs(holds(3, way[:at] + (value,) + way[at + 1:]), False)


class SpanTest(unittest.TestCase):
    def test_by_hand(self):
        rng = random.Random(146)
        seen = {"none": 0, "both": 0, "least": 0, "most": 0, "neither": 0}
        for _ in range(300):
            house = small_house(rng)
            places, links = flat(house, "m")
            if not places:
                continue
            beat = chosen_beat(rng, rings_by_hand(links))
            one, other = rng.choice(places), rng.choice(places)
            found = span(house=house, name="m", beat=beat, one=one, other=other)
            if timetable(house, "m", beat) is None:
                seen["none"] += 1
                self.assertIsNone(found)
                continue
            longest = longest_by_hand(links, beat)
            least = 0 if one == other else longest.get((other, one))
            most = 0 if one == other else longest.get((one, other))
            self.assertEqual(found, (least, None if most is None else -most))
            seen["neither" if found == (None, None) else "least" if most is None else "most" if least is None else "both"] += 1
        self.assertGreater(min(seen.values()), 20)

    def test_told(self):
        self.assertEqual((span(HOUSE, "shop", 5, "fold", "cut"), span(HOUSE, "shop", 5, "done", "order")), ((3, 4), (5, None)))
        self.assertEqual((span(HOUSE, "shop", 5, "order", "done"), span(HOUSE, "shop", 5, "cut", "cut")), ((None, -5), (0, 0)))
        self.assertIsNone(span(HOUSE, "shop", 3, "cut", "cut"))


class MarginTest(unittest.TestCase):
    def test_by_rings(self):
        rng = random.Random(147)
        seen = {"none": 0, "below 0": 0, "fraction": 0, "whole": 0, "True": 0, "False": 0}
        for _ in range(250):
            house = small_house(rng)
            places, links = flat(house, "m")
            rings = rings_by_hand(links)
            beat = chosen_beat(rng, rings)
            found, paper = margin(house=house, name="m", beat=beat), margin_paper(house=house, name="m", beat=beat)
            if not rings:
                seen["none"] += 1
                self.assertEqual((found, paper), (None, None))
                self.assertIs(margin_holds(house, "m", beat, ((), tuple([(place, 0) for place in places]))), False)
                continue
            least = min([Fraction(-over(ring, beat), len(ring)) for ring in rings])
            self.assertEqual(found, (least.numerator, least.denominator))
            seen["below 0" if least < 0 else "whole" if least.denominator == 1 else "fraction"] += 1
            self.assertTrue(self.holds(places, links, rings, beat, paper))
            self.assertIs(margin_holds(house=house, name="m", beat=beat, value=paper), True)
            for _ in range(4):
                heights = tuple([(place, height + rng.choice([0, 0, 0, 1, -1])) for place, height in paper[1]])
                ring = rng.choice(rings)
                at = rng.randrange(len(ring))
                value = (rng.choice([paper[0], ring[at:] + ring[:at]]), heights)
                wanted = self.holds(places, links, rings, beat, value)
                self.assertIs(margin_holds(house, "m", beat, value), wanted)
                seen[str(wanted)] += 1
        self.assertGreater(min(seen.values()), 10)

    def holds(self, places, links, rings, beat, value):
        ring, pairs = value
        start = ring.index(min(ring))
        heights, least = dict(pairs), Fraction(-over(ring, beat), len(ring))
        self.assertIn(ring[start:] + ring[:start], rings)
        self.assertEqual([place for place, _ in pairs], list(places))
        p, q = least.numerator, least.denominator
        return all([heights[then] >= heights[first] + q * (lasts - beat * marks) + p for first, then, marks, lasts in links])

    def test_told(self):
        self.assertEqual((margin(HOUSE, "shop", 5), margin(HOUSE, "shop", 4), margin(HOUSE, "shop", 1), margin(HOUSE, "shop", 0)), ((1, 2), (0, 1), (-3, 2), (-2, 1)))
        self.assertIsNone(margin(House([Module("m", ["i"], ["o"], [], [("i", "o", 0, 9)])]), "m", 3))
        # So much can each link have to spare at once: one ring by its links, not by its marks.
        house = House([Module("m", [], [], ["s", "t"], [("s", "t", 1, 0), ("t", "s", 1, 0), ("s", "s", 1, 5)])])
        self.assertEqual([margin(house, "m", beat) for beat in (0, 5, 6, 99)], [(-5, 1), (0, 1), (1, 1), (94, 1)])

    def test_any_values(self):
        ring, heights = (("cut", "fold", 0, 3), ("fold", "cut", 1, 1)), (("cut", 0), ("done", 12), ("fold", 7), ("order", -1))
        holds = lambda value: margin_holds(HOUSE, "shop", 5, value)
        self.assertIs(holds((ring, heights)), True)
        self.assertIs(holds((ring[1:] + ring[:1], heights)), True)
        for value in ((ring,), (ring, heights, ()), [ring, heights], (list(ring), heights), (ring, list(heights)), (ring[:1], heights), ((), heights), (ring * 2, heights),
                      (ring, heights[:3]), (ring, heights[1:] + heights[:1]), (ring, (*heights[:3], ("order", True))), (ring, (*heights[:3], ("order", 1))),
                      ((ring[0], ("fold", "cut", True, 1)), heights), (ring, (*heights[:3], ["order", -1]))):
            self.assertIs(holds(value), False)
        for value in ANY_VALUES:
            self.assertIs(holds(value), False)
            self.assertIs(holds((value, heights)), False)
            self.assertIs(holds((ring, value)), False)
            self.assertIs(holds(((ring[0], value), heights)), False)
            self.assertIs(holds((ring, (*heights[:3], value))), False)


class ErrorTest(unittest.TestCase):
    def test_names(self):
        asks = (
            least_round, slowest, lambda *given: too_slow(*given, 3), lambda *given: timetable(*given, 3, [("x", 1)]), lambda *given: spared(*given, 3, 1),
            lambda *given: timetable_holds(*given, 3, None), lambda *given: latest_times(*given, 3, [("x", 1)]),
            lambda *given: clash(*given, 3, [("x", 1)], [("y", 1)]), lambda *given: clash_holds(*given, 3, [("x", 1)], [("y", 1)], None),
            lambda *given: span(*given, 3, "x", "y"), lambda *given: margin(*given, 3), lambda *given: margin_paper(*given, 3),
            lambda *given: margin_holds(*given, 3, None),
        )
        for ask in asks:
            for bad in ANY_VALUES:
                if bad not in ("shop", "two"):
                    self.assertIs(error_of(self, NoPlace, ask, HOUSE, bad).name, bad)

    def test_places(self):
        # Also with a beat that no timetable keeps.
        for beat in (3, 5):
            for bad in ANY_VALUES:
                if bad == "order":
                    continue
                good = [("cut", 1)]
                for ask, given in ((timetable, [[*good, (bad, 1), ("x", 1)]]), (latest_times, [[*good, (bad, 1), ("x", 1)]]), (clash, [[*good, (bad, 1)], [("x", 1)]]),
                                   (clash, [good, [*good, (bad, 1), ("x", 1)]]), (clash_holds, [[(bad, 1)], [("x", 1)], None]), (clash_holds, [good, [(bad, 1)], None]),
                                   (span, [bad, "x"]), (span, ["cut", bad])):
                    self.assertIs(error_of(self, NoPlace, ask, HOUSE, "shop", beat, *given).name, bad)


if __name__ == "__main__":
    unittest.main()
