"""Run papers: that all goes on for ever as it did."""

from math import lcm

from waitworks.checks import check_arrivals
from waitworks.courses import course
from waitworks.rows import growth
from waitworks.walking import comes_again, is_run_form, most_marks


def run_paper(house, name, arrivals):
    """Some right paper for a run: a place from which on all comes again, its turn, and the growths."""
    rows = course(house, name, arrivals)
    places, links = house.flat(name)
    turn = 1
    for row in rows.values():
        turn = lcm(turn, len(row.again))
    begin = most_marks(links) + max([len(row.first) for row in rows.values()], default=0)
    return (begin, turn, tuple([(place, growth(rows[place], turn)) for place in places]))


def run_holds(house, name, arrivals, value):
    """Whether any value is a right paper for a run."""
    check_arrivals(arrivals, house[name].inlets)
    places, links = house.flat(name)
    if not is_run_form(value, places):
        return False
    rows = course(house, name, arrivals)
    begin, turn, growths = value
    start = begin - most_marks(links)
    # A right paper tells rows that come again. If they do, it is right: what comes by a link never grows
    # more; what reaches a going so far out that slower places are left behind reaches it here, too.
    return start >= 0 and all([comes_again(rows[place], start, turn, grow) for place, grow in growths])
