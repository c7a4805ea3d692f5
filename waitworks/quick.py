"""Quick walks: all places are walked at once, for some goings, until it is shown that all of them come again.

Let `turn` be a number of goings, and let each place grow by some number from that many goings ago. If this is so for
as many goings as links reach back; if for a whole turn each going is reached by what grows just so; and if nothing
comes to a place that grows more: then all goes on so for ever. (Whoever reached the going a turn ago reaches this
one, and all else comes no later.) Where this does not show soon, there are other ways to the rows.
"""

from math import lcm

from waitworks.rows import Row, growth, is_empty, nothings

# What has not come again by then, or in such turns, is not walked any farther.
MOST_WALKED = 48
MOST_TURN = 24
TURNS = (1, 2, 3, 4, 6)


def quick_rows(order, links, given, wanted):
    """The rows of those places that are wanted, as they wait for one another and for given rows; None if not soon.

    Links without marks lead from what is ahead in this order. Places that nothing reaches are left out.
    """
    walk = QuickWalk(order, links, given)
    if len(walk.times) == 0:
        return {}
    many = walk.settled + walk.back + walk.turn
    while walk.turn <= MOST_TURN and many <= MOST_WALKED:
        walk.go(many)
        for times in TURNS:
            begin = walk.begin_of_turn(walk.turn * times)
            if begin is not None:
                return walk.rows_from(begin, walk.turn * times, wanted)
        many += 1 + many // 6
    return None


class QuickWalk:
    """Places that wait for one another, and their times so far."""

    def __init__(self, order, links, given):
        self.coming = {}
        self.turn = 1
        self.settled = 0
        inner = []
        floors = {}
        starts = {}
        rows = []
        for link in links:
            first, then, marks, lasts = link
            if first not in given:
                inner.append(link)
            elif not is_empty(given[first]):
                row = given[first]
                start = nothings(row) + marks
                starts[then] = min(start, starts.get(then, start))
                if row.more == 0 and start == 0 and len(row.first) == 0:
                    floors[then] = max(row.again[0] + lasts, floors.get(then, row.again[0] + lasts))
                else:
                    rows.append(link)
                    self.turn = lcm(self.turn, len(row.again))
                    self.settled = max(self.settled, len(row.first) + marks)
        _lead_starts(starts, inner)
        self.back = max([1, *[link[2] for link in inner]])
        self.settled = max([self.settled, *list(starts.values())])
        self.times = {place: [None] * starts[place] for place in order if place in starts}
        self.many = 0
        ways = {place: [] for place in self.times}
        for first, then, marks, lasts in inner:
            if first in starts:
                ways[then].append((first, self.times[first], marks, lasts, starts[first] + marks))
        for at, (first, then, marks, lasts) in enumerate(rows):
            row = given[first]
            self.coming[at] = (row, [])
            ways[then].append((at, self.coming[at][1], marks, lasts, nothings(row) + marks))
        self.steps = [(starts[place], floors.get(place), self.times[place], ways[place]) for place in self.times]
        self.ways = ways
        self.floors = floors

    def go(self, many):
        """Tell the goings of all places, up to so many of each."""
        for row, times in self.coming.values():
            _tell_times(row, times, many)
        for n in range(self.many, many):
            for start, floor, mine, ways in self.steps:
                if n >= start:
                    best = floor
                    for _, others, marks, lasts, active in ways:
                        if n >= active:
                            came = others[n - marks] + lasts
                            if best is None or came > best:
                                best = came
                    mine.append(best)
        self.many = many

    def begin_of_turn(self, turn):
        """The going from which on all comes again in such turns, if that is shown; else None."""
        begin = self.many - turn
        low = begin - self.back
        if low < self.settled:
            return None
        grows = {}
        for place, mine in self.times.items():
            grow = mine[-1] - mine[begin - 1]
            for n in range(low, begin):
                if mine[n + turn] - mine[n] != grow:
                    return None
            grows[place] = grow
        for at, (row, _) in self.coming.items():
            grows[at] = growth(row, turn)
        for place in self.times:
            if not self._is_reached(place, begin, grows):
                return None
        return low

    def _is_reached(self, place, begin, grows):
        """Whether each going from one on is reached by what grows like its place, and nothing that comes grows more."""
        grow = grows[place]
        ways = self.ways[place]
        for way in ways:
            if grows[way[0]] > grow:
                return False
        some = [way for way in ways if grows[way[0]] == grow]
        mine = self.times[place]
        floor = self.floors.get(place)
        for n in range(begin, self.many):
            time = mine[n]
            if grow != 0 or time != floor:
                if not _comes_by(some, n, time):
                    return False
        return True

    def rows_from(self, begin, turn, wanted):
        """The rows of those places that are wanted, if all goes on from this going on."""
        found = {}
        for place in wanted:
            if place in self.times:
                mine = self.times[place]
                again = mine[begin:begin + turn]
                found[place] = Row(mine[:begin], again, mine[begin + turn] - again[0])
        return found


def _comes_by(ways, n, time):
    """Whether the n-th going comes at a time by some of these ways."""
    for _, others, marks, lasts, _ in ways:
        if others[n - marks] + lasts == time:
            return True
    return False


def _lead_starts(starts, links):
    """Tell of all places that these links reach from which going on they have times."""
    changed = True
    while changed:
        changed = False
        for first, then, marks, _ in links:
            if first in starts:
                start = starts[first] + marks
                if then not in starts or start < starts[then]:
                    starts[then] = start
                    changed = True


def _tell_times(row, times, many):
    """Tell the next times of a row, up to so many at least."""
    if len(times) == 0:
        times.extend(row.first)
    while len(times) < many:
        add = (len(times) - len(row.first)) // len(row.again) * row.more
        times.extend([time + add for time in row.again])
