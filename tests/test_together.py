"""What is promised over several chapters at once: mends, logs, choices, tidy modules, works and days."""

import random
import unittest

from waitworks.checker import holds, wrong_sheets
from waitworks.cheap import cheap_paper
from waitworks.choices import chosen, chosen_face, meets
from waitworks.cleaning import tidied
from waitworks.contracts import heap, stay
from waitworks.days import Day
from waitworks.desk import Desk
from waitworks.exchange import can_change, made_of
from waitworks.faces import face, in_row, out
from waitworks.flats import flat, written_out
from waitworks.houses import House, Module
from waitworks.latest import first_late, in_time, latest
from waitworks.lateness import most_late
from waitworks.logs import explained, explains, log_of, told_back
from waitworks.mends import best_beat, mend, mend_cost, mend_costs, mended
from waitworks.partings import never_later
from waitworks.ratepapers import rate_paper
from waitworks.rates import paces
from waitworks.reasons import chain
from waitworks.rows import Row, unit
from waitworks.runpapers import run_paper
from waitworks.runs import run
from waitworks.timetables import least_round, margin_paper, timetable, timetable_holds, too_slow
from waitworks.works import Works

from models import HOUSE, busy_house, some_arrivals, some_contract, some_house
from test_choices import good_case
from test_mends import some_case
from test_tidy import tidy_module


def ceiling(value):
    return -(-value[0] // value[1])


class MendsTest(unittest.TestCase):
    def test_rounds_and_paces(self):
        rng = random.Random(311)
        for _ in range(60):
            house, places, links, prices = some_case(rng)
            costs = mend_costs(house, "m", prices)
            # The first beat that costs nothing is the least round, and no place is slower.
            self.assertEqual(len(costs) - 1, ceiling(least_round(house, "m")))
            rates = [rate for _, rate in paces(house, "m")]
            self.assertEqual(len(costs) - 1, max([ceiling(rate) for rate in rates], default=0))
            self.assertEqual(best_beat(house, "m", prices, 0), len(costs) - 1)
            for beat, cost in enumerate(costs):
                self.assertIs(cost == 0, timetable(house, "m", beat) is not None)
                found = mend(house, "m", beat, prices)
                if found is not None:
                    done = mended(house, "m", found)
                    self.assertIsNone(too_slow(done, "m", beat))
                    self.assertLessEqual(ceiling(least_round(done, "m")), beat)
                    # What lasts less is nowhere later.
                    self.assertIs(never_later(face(done, "m"), face(house, "m")), True)

    def test_written_out(self):
        rng = random.Random(312)
        seen = 0
        while seen < 40:
            house = some_house(rng, modules=3, stations=2, links=5, lasts=3)
            links = flat(house, "m")[1]
            whole, names = written_out(house, "m", "n")
            names = dict(names)
            prices = [rng.choice([None, 1, 2, 5]) for _ in links]
            led = sorted([((names[link[0]], names[link[1]], *link[2:]), price or 0) for link, price in zip(links, prices)])
            self.assertEqual([link for link, _ in led], list(whole.links))
            there = [price or None for _, price in led]
            seen += len(house["m"].calls) > 0
            self.assertEqual(mend_costs(House([whole]), "n", there), mend_costs(house, "m", prices))


class LogsTest(unittest.TestCase):
    def test_what_is_told_back_goes_so(self):
        rng = random.Random(313)
        seen = 0
        while seen < 40:
            house = some_house(rng, modules=1, lasts=4)
            module = house["m"]
            arrivals = some_arrivals(rng, module)
            log = log_of(house, "m", arrivals, rng.randint(1, 9))
            told = [0 if lasts is None else lasts for lasts in told_back(house, "m", log)]
            links = [(*link[:3], lasts) for link, lasts in zip(flat(house, "m")[1], told)]
            other = House([Module("m", module.inlets, module.outlets, module.stations, links)])
            self.assertEqual(House.read(str(other)), other)
            times = dict(log)
            came = [Row(times[inlet], times[inlet][-1:]) for inlet in module.inlets]
            many = len(log[0][1]) if log else 1
            self.assertEqual(log_of(other, "m", came, many), log)
            self.assertIs(explained(house, "m", log) and explains(house, "m", log, told), True)
            seen += len(links) > 2


class ChoicesTest(unittest.TestCase):
    def test_goals_are_those_of_faces(self):
        rng = random.Random(314)
        seen = {True: 0, False: 0}
        while min(seen.values()) < 30:
            house, menu, houses = good_case(rng, outer=("i",))
            for choice in houses:
                one = chosen_face(house, "m", menu, choice)
                self.assertEqual(one, face(chosen(house, "m", menu, choice), "m"))
                outlet, contract, most = rng.choice(one.outlets), some_contract(rng), rng.randint(0, 25)
                for kind, ask in (("stay", stay), ("heap", heap)):
                    found = ask(one, outlet, contract)
                    self.assertIs(meets(one, [(kind, outlet, contract, most)]), found is not None and found <= most)
                arrivals = some_arrivals(rng, one)
                wishes = [Row((), (rng.randint(0, 40),), rng.randint(3, 12)) for _ in one.outlets]
                good = meets(one, [("late", arrivals, wishes)])
                self.assertIs(good, in_time(one, wishes, arrivals))
                self.assertIs(good, first_late(one, wishes, arrivals) is None)
                seen[good] += 1


class FacesTest(unittest.TestCase):
    def test_tidied_and_made(self):
        rng = random.Random(315)
        for _ in range(40):
            module = tidy_module(rng, lasts=rng.choice([0, 1, 3]), marks=rng.choice([1, 2]))
            wanted = face(House([module]), "m")
            made = made_of(wanted, "m")
            for other in (tidied(module), made, tidied(made)):
                self.assertEqual(face(House([other]), "m"), wanted)
            arrivals = some_arrivals(rng, module)
            rows = dict(run(House([tidied(module)]), "m", arrivals))
            self.assertEqual(tuple([rows[outlet] for outlet in module.outlets]), out(wanted, arrivals))

    def test_exchanged(self):
        rng = random.Random(316)
        seen = {True: 0, False: 0}
        while min(seen.values()) < 15:
            one, other = [face(busy_house(rng, inlets="i", outlets="o", stations=2, more=2, lasts=2), "m") for _ in range(2)]
            self.assertIs(can_change(one, other), in_row(one, other) == in_row(other, one))
            seen[can_change(one, other)] += 1


class WorksTest(unittest.TestCase):
    def test_desk_and_works_and_days(self):
        rng = random.Random(317)
        for _ in range(30):
            house = some_house(rng, modules=3, lasts=5)
            desk, works = Desk(), Works(House([]))
            for module in house.modules:
                self.assertEqual(works.put(module), (module.name,))
                self.assertEqual(desk.say("put " + str(module).replace("\n", " ; ")), module.name)
            self.assertEqual((desk.works.house, works.house), (house, house))
            self.assertEqual(House.read(desk.say("text").replace(" ; ", "\n")), house)
            day = Day(house, "m")
            self.assertEqual(desk.say("day m"), str(len(house["m"].inlets)))
            for inlet in house["m"].inlets:
                self.assertEqual(desk.say(f"come {inlet} 3"), str(day.come(inlet, 3)))
            for place in flat(house, "m")[0]:
                many = day.sure(place)
                self.assertEqual(desk.say("sure " + place), "all" if many is None else str(many))
                time = day.time(place, 1)
                self.assertEqual(desk.say(f"time {place} 1"), "open" if time is None else str(time))
            wishes = [Row((), (50,), 9) for _ in house["m"].outlets]
            if day.can_keep(wishes):
                # The greatest arrivals that keep wishes tell when the next one is due.
                most = latest(face(house, "m"), wishes)
                for inlet, row in zip(house["m"].inlets, most):
                    self.assertEqual(day.due(inlet, wishes), "any" if row is None else row.time(1))


class SheetsTest(unittest.TestCase):
    def test_all_papers_hold(self):
        rng = random.Random(318)
        for _ in range(40):
            house = some_house(rng, modules=2, lasts=4)
            places, links = flat(house, "m")
            arrivals, beat = some_arrivals(rng, house["m"]), ceiling(least_round(house, "m")) + rng.randint(0, 2)
            table = timetable(house, "m", beat)
            prices = [rng.choice([None, 1, 3]) for _ in links]
            sheets = [("run", (arrivals,), run_paper(house, "m", arrivals)), ("table", (beat,), table)]
            for place in places:
                sheets += [("chain", (arrivals, place, 7), chain(house, "m", arrivals, place, 7)), ("rate", (place,), rate_paper(house, "m", place))]
                sheets.append(("late", (beat, table, place, 3), most_late(house, "m", beat, table, place, 3)))
            for slow in (0, 1, 2):
                ring, paper = too_slow(house, "m", slow), cheap_paper(house, "m", slow, prices)
                sheets += [("slow", (slow,), ring)] if ring is not None else []
                sheets += [("cheap", (slow, prices), paper)] if paper is not None else []
                self.assertIs(paper is None, mend_cost(house, "m", slow, prices) is None)
            sheets += [("margin", (beat,), margin_paper(house, "m", beat))] if margin_paper(house, "m", beat) is not None else []
            self.assertEqual(wrong_sheets(house, "m", sheets), ())
            self.assertIs(timetable_holds(house, "m", beat, table), True)
        self.assertIs(holds(HOUSE, "shop", "run", ([unit()],), run_paper(HOUSE, "shop", [unit()])), True)


if __name__ == "__main__":
    unittest.main()
