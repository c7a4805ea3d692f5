"""Run papers: that all goes on for ever as it did."""

from math import lcm

from waitworks.checks import check_arrivals
from waitworks.courses import course
from waitworks.kinds import are_pairs, is_number, is_tuple_of
from waitworks.rows import growth


def run_paper(house, name, arrivals):
    """Some right paper for a run: a place from which on all comes again, its turn, and the growths."""
    rows = course(house, name, arrivals)
    places, links = house.flat(name)
    turn = 1
    for row in rows.values():
        turn = lcm(turn, len(row.again))
    begin = _most_marks(links) + max([len(row.first) for row in rows.values()], default=0)
    return (begin, turn, tuple([(place, growth(rows[place], turn)) for place in places]))


def run_holds(house, name, arrivals, value):
    """Whether any value is a right paper for a run."""
    check_arrivals(arrivals, house[name].inlets)
    places, links = house.flat(name)
    if not _is_paper(value, places):
        return False
    rows = course(house, name, arrivals)
    begin, turn, growths = value
    start = begin - _most_marks(links)
    # A right paper tells rows that come again. If they do, it is right: what comes by a link never grows
    # more; what reaches a going so far out that slower places are left behind reaches it here, too.
    return start >= 0 and all([_comes_again(rows[place], start, turn, grow) for place, grow in growths])


def _most_marks(links):
    """How far back papers look: the greatest number of marks, at least 1."""
    return max([1, *[link[2] for link in links]])


def _is_paper(value, places):
    """Whether this has the form of a paper for these places (a growth below 0 is that of no row)."""
    if not is_tuple_of(value, 3):
        return False
    begin, turn, growths = value
    return is_number(begin) and is_number(turn) and turn > 0 and are_pairs(growths, places)


def _comes_again(row, start, turn, grow):
    """Whether a row comes again in such turns, each so much later, from this place on."""
    return start >= len(row.first) and turn % len(row.again) == 0 and growth(row, turn) == grow
