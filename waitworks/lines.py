"""Rows as the greatest of few lines: single times, and times that come again in turns of their own for ever.

What goes at one pace for long, and only then at the quicker one that it has in the end, has few lines, but
many first times.
"""

from math import lcm

from waitworks.rows import is_empty

# The pair of turn and growth of single times.
ONCE = (0, 0)
# With so few first times no lines are looked for, and those have turns of so many goings at most.
FEW = 120
MOST_TURN = 60
# Lines with fewer times than this are not worth their place.
LEAST_HITS = 3
# Whoever has found no line so often does not look any more.
PATIENCE = 100


def lines_of(row):
    """For each pair of a turn and its growth the pairs of a going and a time with which such lines begin: a dict.

    The row has at each place the greatest of what its lines have there, or have had ahead of it.
    """
    if is_empty(row):
        return {}
    begin = len(row.first)
    things = [*row.first, *row.again]
    # What is no later than the going ahead is told by it.
    rising = [n for n in range(1, len(things)) if things[n] != things[n - 1] and n != begin]
    early = [n for n in [0, *rising] if n < begin and things[n] is not None]
    if row.more == 0:
        return {ONCE: [(n, things[n]) for n in [*early, begin]]}
    lines = {(len(row.again), row.more): [(n, things[n]) for n in [begin, *rising] if n >= begin]}
    if len(early) <= FEW:
        lines[ONCE] = [(n, things[n]) for n in early]
    else:
        _add_early(lines, row, early)
    return lines


def _add_early(lines, row, early):
    """Put lines for these goings, ahead of those that come again, to the other ones."""
    lines[ONCE] = []
    end = len(row.first) + len(row.again) * MOST_TURN
    times = [row.time(n) for n in range(end)]
    covered = {}
    for n in early:
        if n not in covered:
            pair, hits = ONCE, []
            if len(lines[ONCE]) < PATIENCE:
                pair, hits = _line_from(n, row, times, list(lines))
            lines.setdefault(pair, []).append((n, times[n]))
            covered.update({at: True for at in hits})


def _line_from(n, row, times, known):
    """The turn and growth of a line from a going on that is nowhere above the row, and where it meets it."""
    for pair in known:
        hits = _hits(n, row, times, pair)
        if len(hits) >= LEAST_HITS:
            return pair, hits
    best, most = ONCE, []
    for turn in range(1, MOST_TURN + 1):
        pair = (turn, times[n + turn] - times[n])
        hits = _hits(n, row, times, pair)
        if len(hits) >= max(LEAST_HITS, len(most) + 1):
            best, most = pair, hits
    return best, most


def _hits(n, row, times, pair):
    """The goings at which a line from this one on meets the row; none if it is above it anywhere."""
    turn, more = pair
    if pair == ONCE or more * len(row.again) > row.more * turn:
        return []
    found = []
    time = times[n]
    # What grows no faster is nowhere above far out, if it is not so within a common turn.
    for at in range(n + turn, len(row.first) + lcm(turn, len(row.again)), turn):
        time += more
        if time > times[at]:
            return []
        if time == times[at]:
            found.append(at)
    return found
