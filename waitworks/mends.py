"""Mends: which links are to last less so that a beat is kept, and what that costs at least."""

from waitworks.flats import written_out
from waitworks.houses import House, Module
from waitworks.papers import are_cuts, over, shortened, worth_of
from waitworks.paths import ratio
from waitworks.rings import heights_or_ring, highest_ways, slowest_ring
from waitworks.streams import best_flow, rises


def hindrance(house, name, beat, prices):
    """Some ring that lasts too long by its links without a price alone, or None."""
    places, links = house.flat(name)
    ring = heights_or_ring(places, links, over(_fixed(links, prices), beat))[1]
    return ring if len(ring) > 0 else None


def _fixed(links, prices):
    """These links, those with a price as short as they can be made."""
    return [link if price is None else (*link[:3], 0) for link, price in zip(links, prices)]


def mend(house, name, beat, prices):
    """Some cheapest mend; None if there is none."""
    places, links = house.flat(name)
    flows = best_flow(places, links, beat, prices)
    return None if flows is None else cheapest_cuts(links, beat, times_by(places, links, beat, prices, flows))


def times_by(places, links, beat, prices, flows):
    """Times by which the cheapest cuts are told, by a best flow: a dict."""
    steps, weights = rises(links, beat, prices, flows)
    return heights_or_ring(places, steps, weights)[0]


def cheapest_cuts(links, beat, times):
    """The pairs of a link's number and how much it is too long for these times."""
    weights = over(links, beat)
    cuts = [times[link[0]] + weight - times[link[1]] for link, weight in zip(links, weights)]
    return tuple([(at, cut) for at, cut in enumerate(cuts) if cut > 0])


def mend_cost(house, name, beat, prices):
    """What the cheapest mend costs; None if there is none."""
    places, links = house.flat(name)
    flows = best_flow(places, links, beat, prices)
    return None if flows is None else worth_of(flows, links, beat, prices)


def mend_holds(house, name, beat, prices, value):
    """Whether any value is a mend, whatever it costs."""
    places, links = house.flat(name)
    if not are_cuts(value, links, prices):
        return False
    return heights_or_ring(places, links, over(shortened(links, value), beat))[0] is not None


def mended(house, name, cuts):
    """The house of the module written out, with links that last so much less."""
    whole, pairs = written_out(house, name, name)
    names = dict(pairs)
    _, links = house.flat(name)
    less = shortened(links, cuts)
    renamed = sorted([(names[first], names[then], marks, lasts) for first, then, marks, lasts in less])
    return House([Module(whole.name, whole.inlets, whole.outlets, whole.stations, renamed)])


class Costs:
    """What the cheapest mends cost, beat by beat: along the line of a best flow, as far as this is the greatest one."""

    def __init__(self, house, name, prices):
        self.places, self.links = house.flat(name)
        self.prices = prices
        self.start = _least_beat(self.places, _fixed(self.links, prices))
        self.end = _least_beat(self.places, self.links)

    def line(self, beat):
        """What a best flow is worth at the beat 0, and how much less for each beat more."""
        flows = best_flow(self.places, self.links, beat, self.prices)
        marks = sum([link[2] * much for link, much in zip(self.links, flows)])
        return worth_of(flows, self.links, 0, self.prices), marks

    def between(self, low, high):
        """The beats, ascending, ahead of `high` from which on another line counts, and these lines."""
        found = []
        waiting = [(low, self.line(low), high, self.line(high))]
        while len(waiting) > 0:
            begin, line, end, other = waiting.pop()
            if _at(line, end) == _at(other, end) or end - begin < 2:
                found.append((begin, line))
            else:
                # Where both lines meet the cost is at least as much: nowhere else is it farther above them.
                meeting = (line[0] - other[0]) // (line[1] - other[1])
                middle = max(begin + 1, min(end - 1, meeting))
                told = self.line(middle)
                waiting.append((middle, told, end, other))
                waiting.append((begin, line, middle, told))
        return found


def _least_beat(places, links):
    """The least beat that these links keep."""
    ring = slowest_ring(places, links)
    if len(ring) == 0:
        return 0
    top, bottom = ratio(ring)
    return -(-top // bottom)


def _at(line, beat):
    """What a line tells for a beat."""
    return line[0] - line[1] * beat


def mend_costs(house, name, prices):
    """What the cheapest mend costs for the beats 0, 1, and so on, up to the first one that costs nothing."""
    costs = Costs(house, name, prices)
    found = [None] * costs.start
    lines = costs.between(costs.start, costs.end) if costs.start < costs.end else []
    ends = [*[begin for begin, _ in lines[1:]], costs.end]
    for (begin, line), end in zip(lines, ends):
        found.extend([_at(line, beat) for beat in range(begin, end)])
    return (*found, 0)


def best_beat(house, name, prices, money):
    """The least beat with a mend that costs no more than this."""
    costs = Costs(house, name, prices)
    beat = costs.start
    line = costs.line(beat)
    while _at(line, beat) > money:
        # No beat costs less than a line tells.
        beat = max(beat + 1, -((money - line[0]) // line[1]))
        line = costs.line(beat)
    return beat


def cut_spans(house, name, beat, prices):
    """For each link the least and the greatest cut in any cheapest mend; None if there is no mend."""
    places, links = house.flat(name)
    flows = best_flow(places, links, beat, prices)
    if flows is None:
        return None
    steps, weights = rises(links, beat, prices, flows)
    far = {place: highest_ways({place: 0}, steps, weights)[0] for place in places}
    found = []
    for (first, then, _, _), weight in zip(links, over(links, beat)):
        back = far[then].get(first)
        least = 0 if back is None else max(0, weight + back)
        found.append((least, max(0, weight - far[first][then])))
    return tuple(found)
