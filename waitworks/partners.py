"""Partners: how late a row can be, so that another one behind it keeps a wish."""

from waitworks.rows import Row, empty, gaps_between, is_empty, nothings


def partner(wish, row):
    """The greatest row that this row can stand behind without being above the wish; None if there is no bound."""
    if is_empty(row):
        return None
    if is_empty(wish):
        return empty()
    begin, turn, grow, _ = gaps_between(wish, row)
    if grow < 0:
        return empty()
    # A wish that grows as fast, or faster, is nearest within one turn of both.
    steps = range(nothings(row), begin + turn)
    many = len(wish.first) + len(wish.again)
    times = [_least_gap([(wish.time(n + k), row.time(k)) for k in steps]) for n in range(many)]
    return Row(times[:len(wish.first)], times[len(wish.first):], wish.more)


def _least_gap(pairs):
    """The least difference of pairs of things, nothing if the one is nothing."""
    gaps = [None if wish is None else wish - time for wish, time in pairs]
    return None if None in gaps else min(gaps)


def greatest_difference(one, other):
    """The greatest number by which the one row is above the other one; None if there is none."""
    if is_empty(one) or is_empty(other):
        return None
    begin, _, grow, gaps = gaps_between(one, other)
    start = nothings(one)
    if grow > 0 or nothings(other) > start:
        return None
    return max([*gaps, *[one.time(n) - other.time(n) for n in range(start, begin)]])
