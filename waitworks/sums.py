"""Sums of rows: the greatest and the least of some, one behind another, and stars."""

from math import lcm

from waitworks.errors import InvalidRow
from waitworks.kinds import is_less
from waitworks.rows import Row, empty, growth, is_empty, last_above, unit
from waitworks.solving import solved


def greatest(rows):
    """The row that has at each place the greatest thing that these have there."""
    links = [(at, "sum", 0, 0) for at in range(len(rows))]
    return solved(["sum"], links, {at: row for at, row in enumerate(rows)})["sum"]


def least(rows):
    """The row that has at each place the least thing that these have there."""
    if any([is_empty(row) for row in rows]):
        return empty()
    slow = rows[0]
    for row in rows:
        if is_less(row.rate, slow.rate):
            slow = row
    begin = 0
    turn = 1
    for row in rows:
        begin = max(begin, len(row.first))
        if row.rate == slow.rate:
            turn = lcm(turn, len(row.again))
        else:
            begin = max(begin, last_above(slow, row))
    times = [_least_of([row.time(n) for row in rows]) for n in range(begin + turn)]
    return Row(times[:begin], times[begin:], growth(slow, turn))


def _least_of(things):
    """The least one of some times and nothings."""
    return None if None in things else min(things)


def behind(one, other):
    """The row that has at n the greatest sum of a time of the one at i, of the other one at n - i."""
    short, long = one, other
    if len(one.first) + len(one.again) > len(other.first) + len(other.again):
        short, long = other, one
    return solved(["sum", "turn"], _ladder(short, "long", "sum"), {"long": long})["sum"]


def star(row):
    """The greatest of the row of zeros, the row, the row behind itself, and so on."""
    time = row.time(0)
    if time is not None and time > 0:
        raise InvalidRow("first")
    links = [("unit", "sum", 0, 0), *_ladder(_without_start(row), "sum", "sum")]
    return solved(["sum", "turn"], links, {"unit": unit()})["sum"]


def _without_start(row):
    """The row with nothing at 0: a time that is not above 0 there adds nothing to a star."""
    if len(row.first) > 0:
        return Row([None, *row.first[1:]], row.again, row.more)
    return Row([None], [row.time(n) for n in range(1, len(row.again) + 1)], row.more)


def _ladder(row, first, then):
    """Links by which `then` has what `first` has behind this row: what comes again goes around one ring."""
    if is_empty(row):
        return []
    begin = len(row.first)
    steps = [(first, then, n, time) for n, time in enumerate(row.first) if time is not None]
    turns = [(first, "turn", n, time) for n, time in enumerate(row.again, start=begin)]
    return [*steps, *turns, ("turn", "turn", len(row.again), row.more), ("turn", then, 0, 0)]
