"""The rows of places that wait for one another: walked going by going, until it is shown that they come again.

Ways of links lead from given rows; a place has the latest of all that comes to it, or nothing.
"""

from math import lcm

from waitworks.kinds import is_less
from waitworks.paths import layers, ratio
from waitworks.quick import quick_rows
from waitworks.rings import parts, slowest_ring, turn_of_rings
from waitworks.rows import Row, empty, first_above, is_empty, later


def solved(order, links, given, wanted):
    """The least rows, for those places that are wanted, that keep all links from places with given rows: a dict.

    Links without marks lead from what is ahead in this order of all places.
    """
    found = quick_rows(order, links, given, wanted)
    if found is None:
        found = _found_by_parts(order, links, given)
    return {place: found[place] if place in found else empty() for place in wanted}


def _found_by_parts(places, links, given):
    """The least rows of all places, found for those that feed one another together."""
    rows = {place: row for place, row in given.items()}
    for part in parts(places, links):
        coming = [link for link in links if link[1] in part and (link[0] in part or not is_empty(rows[link[0]]))]
        rows.update(_rows_of_part(part, coming, rows))
    return rows


def _rows_of_part(part, links, rows):
    """The rows of places that feed one another, with the links that come to them."""
    if all([link[0] in part for link in links]):
        return {place: empty() for place in part}
    if len(links) == 1:
        first, then, marks, lasts = links[0]
        return {then: later(rows[first], marks, lasts)}
    walk = Walk(part, links, rows)
    wait = 0
    while True:
        walk.step()
        if walk.goes_on() and walk.many > wait:
            found = walk.found()
            above = walk.first_slow_above(found)
            if above is None:
                return found
            # Looking less often, the farther it is, keeps the work for looks below that for steps.
            wait = max(above, walk.many * 3 // 2)


class Walk:
    """Places that feed one another, and their times so far.

    All of them grow with one pace in the long run: that of their slowest ring, or of the fastest row
    that comes to them. What comes with this pace is quick, all other rows that come are slow.
    """

    def __init__(self, part, links, rows):
        inner = [link for link in links if link[0] in part]
        self.rows = {link[0]: rows[link[0]] for link in links if link[0] not in part}
        pace, self.turn = _pace_and_turn(part, inner, list(self.rows.values()))
        self.grow = pace[0] * self.turn // pace[1]
        slow = {first: True for first, row in self.rows.items() if is_less(row.rate, pace)}
        self.slow_links = [link for link in links if link[0] in slow]
        self.back = max([link[2] for link in inner], default=0)
        quick = [link for link in links if link[0] in self.rows and link[0] not in slow]
        self.begin = max([len(rows[link[0]].first) + link[2] for link in quick], default=0)
        levels = layers(part, inner)
        self.order = [place for _, place in sorted([(levels[place], place) for place in part])]
        self.times = {place: [] for place in [*part, *self.rows]}
        self.quick_ways = self._ways([*inner, *quick])
        self.slow_ways = self._ways(self.slow_links)
        self.many = 0
        self.repeats = 0
        self.reached = 0

    def _ways(self, links):
        """For each place its ways of links: the times at their beginnings, marks, lasts."""
        ways = {place: [] for place in self.order}
        for first, then, marks, lasts in links:
            ways[then].append((self.times[first], marks, lasts))
        return ways

    def step(self):
        """Tell the next going of all places."""
        n = self.many
        for place, row in self.rows.items():
            self.times[place].append(row.time(n))
        alike = True
        reached = n >= self.begin
        for place in self.order:
            times = self.times[place]
            quick = _latest(self.quick_ways[place], n, None)
            time = _latest(self.slow_ways[place], n, quick)
            times.append(time)
            reached = reached and time is not None and time == quick
            alike = alike and n >= self.turn and time is not None and times[n - self.turn] == time - self.grow
        self.repeats = self.repeats + 1 if alike else 0
        self.reached = self.reached + 1 if reached else 0
        self.many = n + 1

    def goes_on(self):
        """Whether all goes on like this for ever, if slow rows stay below.

        So far back as links reach all times are those of the turn ahead, and much later; and for a
        whole turn they have been reached by what grows just so.
        """
        return self.repeats >= self.back and self.reached >= self.turn

    def found(self):
        """The rows of all places, if all goes on like this."""
        begin = self.many - self.turn - self.back
        rows = {}
        for place in self.order:
            times = self.times[place]
            rows[place] = Row(times[:begin], times[begin:begin + self.turn], self.grow)
        return rows

    def first_slow_above(self, rows):
        """A going at which a slow row is above these rows, or None."""
        for first, then, marks, lasts in self.slow_links:
            above = first_above(later(self.rows[first], marks, lasts), rows[then])
            if above is not None:
                return above
        return None


def _pace_and_turn(part, links, rows):
    """The pace with which all these places grow, and a number of goings after which they come again."""
    pace = rows[0].rate
    for row in rows:
        if is_less(pace, row.rate):
            pace = row.rate
    ring = slowest_ring(part, links)
    if len(ring) > 0 and is_less(pace, ratio(ring)):
        pace = ratio(ring)
    turn = 1
    # What does not grow at all stays at one time in the end.
    if pace[0] > 0:
        for row in rows:
            if row.rate == pace:
                turn = lcm(turn, len(row.again))
        if len(ring) > 0 and ratio(ring) == pace:
            turn = lcm(turn, turn_of_rings(part, links, pace))
    return pace, turn


def _latest(ways, n, time):
    """The latest time of the n-th going that ways tell, and this one."""
    best = time
    for times, marks, lasts in ways:
        if n >= marks:
            came = times[n - marks]
            if came is not None and (best is None or came + lasts > best):
                best = came + lasts
    return best
