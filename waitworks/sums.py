"""Sums of rows: the greatest and the least of some, one behind another, and stars."""

from math import lcm

from waitworks.errors import InvalidRow
from waitworks.kinds import is_less
from waitworks.nets import ladder
from waitworks.rows import Row, empty, growth, is_empty, last_above, unit
from waitworks.solving import solved


def greatest(rows):
    """The row that has at each place the greatest thing that these have there."""
    links = [(at, "sum", 0, 0) for at in range(len(rows))]
    return solved(["sum"], links, {at: row for at, row in enumerate(rows)}, ["sum"])["sum"]


def least(rows):
    """The row that has at each place the least thing that these have there."""
    if any([is_empty(row) for row in rows]):
        return empty()
    slow = rows[0]
    for row in rows:
        if is_less(row.rate, slow.rate):
            slow = row
    begin = 0
    turn = 1
    for row in rows:
        begin = max(begin, len(row.first))
        if row.rate == slow.rate:
            turn = lcm(turn, len(row.again))
        else:
            begin = max(begin, last_above(slow, row))
    times = [_least_of([row.time(n) for row in rows]) for n in range(begin + turn)]
    return Row(times[:begin], times[begin:], growth(slow, turn))


def _least_of(things):
    """The least one of some times and nothings."""
    return None if None in things else min(things)


def behind(one, other):
    """The row that has at n the greatest sum of a time of the one at i, of the other one at n - i."""
    short, long = one, other
    if len(one.first) + len(one.again) > len(other.first) + len(other.again):
        short, long = other, one
    turns, links = ladder(short, "long", "sum", "turn")
    return solved([*turns, "sum"], links, {"long": long}, ["sum"])["sum"]


def sum_at(one, other, n):
    """What the one row behind the other one has at n."""
    if is_empty(one) or is_empty(other):
        return None
    quick, slow = one, other
    if is_less(one.rate, other.rate):
        quick, slow = other, one
    # So many goings farther the quick one gains at least what the slow one does: few places of that one count.
    few = len(slow.first) + lcm(len(slow.again), len(quick.again))
    places = list(range(min(n + 1, few)))
    places.extend(list(range(max(few, n + 1 - len(quick.first)), n + 1)))
    pairs = [(quick.time(n - at), slow.time(at)) for at in places]
    return max([time + rest for time, rest in pairs if time is not None and rest is not None], default=None)


def star(row):
    """The greatest of the row of zeros, the row, the row behind itself, and so on."""
    time = row.time(0)
    if time is not None and time > 0:
        raise InvalidRow("first")
    turns, links = ladder(_without_start(row), "sum", "sum", "turn")
    return solved([*turns, "sum"], [("unit", "sum", 0, 0), *links], {"unit": unit()}, ["sum"])["sum"]


def _without_start(row):
    """The row with nothing at 0: a time that is not above 0 there adds nothing to a star."""
    if len(row.first) > 0:
        return Row([None, *row.first[1:]], row.again, row.more)
    return Row([None], [row.time(n) for n in range(1, len(row.again) + 1)], row.more)
