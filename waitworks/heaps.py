"""Heaps: how many things are within at each time, and how long each of them stays."""

from math import lcm

from waitworks.counts import tally
from waitworks.kinds import in_lowest_terms
from waitworks.rows import gaps_between, is_empty, nothings
from waitworks.steps import begin_of, changes_of, least_form, told_by, told_together


class Heap:
    """How many more things have come than gone at each time; made by functions of this package."""

    def __init__(self, under, first, again, turn, more):
        self.under = under
        form = least_form(first, again, turn, more)
        self.first = form[0]
        self.again = form[1]
        self.turn = form[2]
        self.more = form[3]

    def by(self, time):
        """The heap at a time."""
        return told_by(self, time)

    def most(self):
        """The pair of the greatest heap and the least time with it (None ahead of all steps); None if there is none."""
        return None if self.more > 0 else _first_extreme(self, 1)

    def fewest(self):
        """The pair of the least heap and the least time with it (None ahead of all steps); None if there is none."""
        return None if self.more < 0 else _first_extreme(self, -1)

    def total(self, time, many):
        """The sum of the heaps at so many times from this one on."""
        return _sum_before(self, time + many) - _sum_before(self, time)

    def __eq__(self, other):
        if not isinstance(other, Heap):
            return False
        if self.under != other.under or self.first != other.first or self.again != other.again:
            return False
        return self.turn == other.turn and self.more == other.more


def _first_extreme(heap, sign):
    """The pair of the greatest (with -1: the least) heap and the least time with it."""
    best = (heap.under, None)
    for time, told in [*heap.first, *heap.again]:
        if sign * told > sign * best[0]:
            best = (told, time)
    return best


def _sum_before(heap, end):
    """The sum of the heaps at the times from the first step on that are ahead of this one, below 0 ahead of it."""
    steps = [*heap.first, *heap.again]
    if len(steps) == 0 or end <= steps[0][0]:
        start = 0 if len(steps) == 0 else steps[0][0]
        return (end - start) * heap.under
    if len(heap.again) == 0 or end <= heap.again[0][0]:
        return _sum_of_steps(steps, end)
    begin = heap.again[0][0]
    turns, rest = divmod(end - begin, heap.turn)
    whole = _sum_of_steps(heap.again, begin + heap.turn)
    part = _sum_of_steps(heap.again, begin + rest) + rest * turns * heap.more
    grown = heap.more * heap.turn * (turns * (turns - 1) // 2)
    return _sum_of_steps(heap.first, begin) + turns * whole + grown + part


def _sum_of_steps(steps, end):
    """The sum of what these steps tell at times ahead of this one."""
    ends = [*[time for time, _ in steps[1:]], end]
    return sum([told * (min(until, end) - time) for until, (time, told) in zip(ends, steps) if time < end])


def heaps(comes, goes):
    """The heap of things that come by one row and go by another one; None if a rate is 0."""
    if comes.rate[0] == 0 or goes.rate[0] == 0:
        return None
    counts = [tally(comes), tally(goes)]
    begin = max([begin_of(told) for told in counts])
    turn = lcm(counts[0].turn, counts[1].turn)
    start, told = told_together(counts, begin + turn + 1)
    under = start[0] - start[1]
    changes = changes_of(under, [(time, come - gone) for time, (come, gone) in told])
    first = [step for step in changes if step[0] <= begin]
    again = changes[len(first):]
    if len(again) == 0:
        return Heap(under, first, (), 0, 0)
    more = counts[0].more * turn // counts[0].turn - counts[1].more * turn // counts[1].turn
    return Heap(under, first, again, turn, more)


def within(comes, goes, time):
    """The pair of how many have gone and come by a time (None for endless): those between are there."""
    return (goes.count(time), comes.count(time))


def stay_of(comes, goes, n):
    """How much later the n-th thing goes than it comes; None if one of both is nothing."""
    come, go = comes.time(n), goes.time(n)
    return None if come is None or go is None else go - come


def longest_stay(comes, goes):
    """The pair of the greatest stay and the least number with it, or None."""
    return _extreme_stay(comes, goes, 1)


def shortest_stay(comes, goes):
    """The pair of the least stay and the least number with it, or None."""
    return _extreme_stay(comes, goes, -1)


def _extreme_stay(comes, goes, sign):
    """The pair of the greatest (with -1: the least) stay and the least number with it, or None."""
    if is_empty(comes) or is_empty(goes):
        return None
    begin, turn, grow, _ = gaps_between(goes, comes)
    if sign * grow > 0:
        return None
    start = max(nothings(comes), nothings(goes))
    stays = [sign * stay_of(comes, goes, n) for n in range(start, begin + turn)]
    most = max(stays)
    return (sign * most, start + stays.index(most))


def turn_of(comes, goes):
    """How many goings until both come again, how much later then, and the sum of so many stays far out; or None."""
    if comes.rate != goes.rate or comes.rate[0] == 0:
        return None
    _, many, _, gaps = gaps_between(goes, comes)
    return (many, comes.more * many // len(comes.again), sum(gaps))


def mean_heap(comes, goes):
    """The value of how many are within in the long run, or None."""
    told = turn_of(comes, goes)
    return None if told is None else in_lowest_terms(told[2], told[1])


def mean_stay(comes, goes):
    """The value of how long each stays in the long run, or None."""
    told = turn_of(comes, goes)
    return None if told is None else in_lowest_terms(told[2], told[0])
