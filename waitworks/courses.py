"""How all goes: the rows of all places of a module, for told arrivals."""

from waitworks.checks import check_arrivals, check_place
from waitworks.nets import net_solved
from waitworks.rows import Row, unit


def course(house, name, arrivals):
    """The rows of all places in the run: a dict."""
    module = house[name]
    check_arrivals(arrivals, module.inlets)
    return _rows_with(house, module, arrivals, [])


def sums_from(house, name, place):
    """The greatest sums of lasts on ways from a place to each place, by how many marks these have at most: a dict."""
    places, links = house.flat(name)
    return net_solved(places, links, [], [(place, unit())])


def all_courses(house, name):
    """What tells how a module goes for all arrivals: for each inlet, and at last for the clock, the rows of all places.

    Behind an inlet a place goes by its row there; by that of the clock it goes if all arrivals are at 0.
    """
    inlets = house[name].inlets
    courses = [sums_from(house, name, inlet) for inlet in inlets]
    courses.append(course(house, name, [unit()] * len(inlets)))
    return courses


def late_course(house, name, arrivals, lates):
    """The rows of all places in the run, and those with late goings."""
    rows = course(house, name, arrivals)
    for place, _, _ in lates:
        check_place(place, list(rows))
    # Nothing is known of goings ahead of a late one; later ones wait for it.
    held = [(place, Row([None] * n, [rows[place].time(n) + d])) for place, n, d in lates]
    return rows, _rows_with(house, house[name], arrivals, held)


def _rows_with(house, module, arrivals, held):
    """The rows of all places that wait for their links, and for these rows, too."""
    places, links = house.flat(module.name)
    # What waits for a going with the same number is not ahead of 0 by this alone.
    later_ones = {then: True for _, then, marks, _ in links if marks == 0}
    coming = [(place, unit()) for place in places if place not in module.inlets and place not in later_ones]
    coming.extend(list(zip(module.inlets, arrivals)))
    coming.extend(held)
    return net_solved(places, links, [], coming)
