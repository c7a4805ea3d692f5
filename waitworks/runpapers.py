"""Run papers: that all goes on for ever as it did."""

from math import lcm

from waitworks.courses import course
from waitworks.kinds import is_number, is_tuple_of
from waitworks.rows import growth, last_above, later


def run_paper(house, name, arrivals):
    """Some right paper for a run: a place from which on all comes again, its turn, and the growths."""
    rows = course(house, name, arrivals)
    places, links = house.flat(name)
    turn = _shared_turn(rows)
    growths = {place: growth(rows[place], turn) for place in places}
    begin = _most_marks(links) + max([len(row.first) for row in rows.values()], default=0)
    for first, then, marks, lasts in links:
        if growths[first] < growths[then]:
            # Behind this the slower place is always left behind, so that it reaches nothing any more.
            begin = max(begin, last_above(later(rows[first], marks, lasts + 1), rows[then]))
    return (begin, turn, tuple([(place, growths[place]) for place in places]))


def run_holds(house, name, arrivals, value):
    """Whether any value is a right paper for a run."""
    rows = course(house, name, arrivals)
    places, links = house.flat(name)
    if not _is_paper(value, places):
        return False
    begin, turn, pairs = value
    growths = dict(pairs)
    start = begin - _most_marks(links)
    if start < 0 or not all([_comes_again(row, start, turn, growths[place]) for place, row in rows.items()]):
        return False
    if any([growths[first] > growths[then] for first, then, _, _ in links]):
        return False
    # From `start` on rows come again after the turn that they share, and so does what reaches a going.
    goings = list(range(begin, begin + _shared_turn(rows)))
    inlets = house[name].inlets
    even = [link for link in links if growths[link[0]] == growths[link[1]]]
    return all([_are_reached(place, rows, even, goings) for place in places if place not in inlets])


def _most_marks(links):
    """How far back papers look: the greatest number of marks, at least 1."""
    return max([1, *[link[2] for link in links]])


def _shared_turn(rows):
    """The number of goings after which all rows come again."""
    turn = 1
    for row in rows.values():
        turn = lcm(turn, len(row.again))
    return turn


def _is_paper(value, places):
    """Whether this has the form of a paper for these places."""
    if not is_tuple_of(value, 3):
        return False
    begin, turn, pairs = value
    if not is_number(begin) or not is_number(turn) or turn == 0 or not is_tuple_of(pairs, len(places)):
        return False
    return all([_is_growth(pair, place) for pair, place in zip(pairs, places)])


def _is_growth(pair, place):
    """Whether this is a pair of this place and a number."""
    return is_tuple_of(pair, 2) and isinstance(pair[0], str) and pair[0] == place and is_number(pair[1])


def _comes_again(row, start, turn, grow):
    """Whether a row comes again in such turns, each so much later, from this place on."""
    return start >= len(row.first) and turn % len(row.again) == 0 and growth(row, turn) == grow


def _are_reached(place, rows, links, goings):
    """Whether these goings of a place are reached by the one ahead, or by some of these links."""
    row = rows[place]
    coming = [link for link in links if link[1] == place]
    return all([row.time(n) == row.time(n - 1) or _is_reached(row.time(n), n, coming, rows) for n in goings])


def _is_reached(time, n, links, rows):
    """Whether the n-th going has this time by some of these links."""
    return any([rows[first].time(n - marks) + lasts == time for first, _, marks, lasts in links])
