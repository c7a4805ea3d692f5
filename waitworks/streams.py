"""Streams: how much flows along each link if flows along rings gain as much as they can.

A price bounds how much of a flow gains what the link lasts; all of it loses the beat times the marks. The best
flow is worth just what the cheapest mend costs: the greatest sums along what can still flow are times for it.
"""

from heapq import heappop, heappush

from waitworks.rings import heights_or_ring


def best_flow(places, links, beat, prices):
    """For each link how much flows along it, if all gain as much as they can; None if there is no bound."""
    arcs = []
    numbers = []
    for at, ((first, then, marks, lasts), price) in enumerate(zip(links, prices)):
        numbers.append(at)
        if price is None:
            arcs.append((first, then, lasts - beat * marks, None))
        else:
            arcs.extend([(first, then, lasts - beat * marks, price), (first, then, -beat * marks, None)])
            numbers.append(at)
    endless = [arc for arc in arcs if arc[3] is None]
    heights, _ = heights_or_ring(places, endless, [arc[2] for arc in endless])
    if heights is None:
        return None
    streams = Streams(arcs, heights)
    streams.settle()
    flows = [0] * len(links)
    for at, much in zip(numbers, streams.flows):
        flows[at] += much
    return flows


def rises(links, beat, prices, flows):
    """What times rise by at least along what can still flow: links, and their weights.

    Times that keep all this are those of the cheapest mends.
    """
    steps = []
    weights = []
    for link, price, much in zip(links, prices, flows):
        first, then, marks, lasts = link
        full = lasts - beat * marks
        steps.append(link)
        weights.append(full if price is None or much < price else -beat * marks)
        if much > 0:
            steps.append((then, first, marks, lasts))
            weights.append(-full if price is None or much <= price else beat * marks)
    return steps, weights


class Streams:
    """What flows along arcs: tuples (first, then, gain, most), most is None where there is no bound.

    By the heights of places no arc gains that can take more, and none loses that can take less.
    """

    def __init__(self, arcs, heights):
        self.arcs = arcs
        self.heights = dict(heights)
        self.flows = [0] * len(arcs)
        self.over = {place: 0 for place in heights}
        self.ways = {place: [] for place in heights}
        for at, (first, then, gain, most) in enumerate(arcs):
            self.ways[first].append((at, then, 1))
            self.ways[then].append((at, first, -1))
            if heights[first] + gain > heights[then]:
                self.flows[at] = most
                self.over[then] += most
                self.over[first] -= most

    def settle(self):
        """Lead on what is too much at places, until as much comes to each place as goes."""
        while any([much > 0 for much in self.over.values()]):
            far, came, place = self._nearest()
            for here, way in far.items():
                self.heights[here] += far[place] - way
            self._lead(self._steps_to(place, came), place)

    def _nearest(self):
        """The nearest place with too little: how far those ahead of it are, the last steps there, and it."""
        queue = []
        for here in sorted(list(self.over)):
            if self.over[here] > 0:
                heappush(queue, (0, here, -1, 0))
        far = {}
        came = {}
        while True:
            way, here, last, sign = heappop(queue)
            if here in far:
                continue
            far[here] = way
            came[here] = (last, sign)
            if self.over[here] < 0:
                return far, came, here
            for at, there, turn in self.ways[here]:
                if there not in far and self._left(at, turn) != 0:
                    cost = self.heights[there] - self.heights[here] - turn * self.arcs[at][2]
                    heappush(queue, (way + cost, there, at, turn))

    def _left(self, at, sign):
        """How much more (with -1: less) can flow along an arc; None if there is no bound."""
        most = self.arcs[at][3]
        if sign < 0:
            return self.flows[at]
        return None if most is None else most - self.flows[at]

    def _steps_to(self, place, came):
        """The steps by which a place was reached, the last one ahead: pairs of an arc's number and a sign."""
        steps = []
        here = place
        at, sign = came[here]
        while sign != 0:
            steps.append((at, sign))
            here = self.arcs[at][0] if sign > 0 else self.arcs[at][1]
            at, sign = came[here]
        return steps

    def _lead(self, steps, place):
        """Let as much as can along steps to a place."""
        at, sign = steps[-1]
        start = self.arcs[at][0] if sign > 0 else self.arcs[at][1]
        bounds = [self._left(at, sign) for at, sign in steps]
        much = min([self.over[start], -self.over[place], *[bound for bound in bounds if bound is not None]])
        for at, sign in steps:
            self.flows[at] += sign * much
        self.over[start] -= much
        self.over[place] += much
