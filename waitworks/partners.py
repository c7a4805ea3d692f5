"""Partners: how late a row can be, so that another one behind it keeps a wish."""

from math import lcm

from waitworks.kinds import is_less
from waitworks.lines import ONCE, lines_of
from waitworks.rows import Row, all_later, empty, gaps_between, is_empty, nothings


def partner(wish, row):
    """The greatest row that this row can stand behind without being above the wish; None if there is no bound."""
    if is_empty(row):
        return None
    if is_empty(wish) or is_less(wish.rate, row.rate):
        return empty()
    start = nothings(row)
    many = len(wish.first) + len(wish.again)
    found = all_later([wish.time(n + start) for n in range(many)], -row.time(start))
    for pair, begins in lines_of(row).items():
        far = max([begin for begin, _ in begins], default=0)
        bounds = _least_ahead(wish, pair, many + far)
        for begin, time in begins:
            found = _least_of_both(found, all_later(bounds[begin:begin + many], -time))
    return Row(found[:len(wish.first)], found[len(wish.first):], wish.more)


def _least_ahead(wish, pair, many):
    """For so many goings the least of the wish less what a line from 0 has, all along the line."""
    if pair == ONCE:
        return [wish.time(n) for n in range(many)]
    turn, more = pair
    # A wish that grows as fast, or faster, is nearest within one common turn.
    least = [wish.time(n) for n in range(many + lcm(turn, len(wish.again)) + turn)]
    for n in reversed(range(len(least) - turn)):
        if least[n] is not None:
            least[n] = min(least[n], least[n + turn] - more)
    return least


def _least_of_both(things, others):
    """The lesser ones of two lists of things."""
    return [None if thing is None else min(thing, other) for thing, other in zip(things, others)]


def greatest_difference(one, other):
    """The greatest number by which the one row is above the other one; None if there is none."""
    if is_empty(one) or is_empty(other):
        return None
    begin, _, grow, gaps = gaps_between(one, other)
    start = nothings(one)
    if grow > 0 or nothings(other) > start:
        return None
    return max([*gaps, *[one.time(n) - other.time(n) for n in range(start, begin)]])
