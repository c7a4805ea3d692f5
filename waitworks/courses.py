"""How all goes: the rows of all places of a module, for told arrivals."""

from waitworks.errors import InvalidArrivals, NoPlace
from waitworks.kinds import is_one_of, is_sequence
from waitworks.nets import net_solved
from waitworks.rows import Row, unit


def check_arrivals(arrivals, inlets):
    """Refuse what are no arrivals for these inlets."""
    at = wrong_arrival(arrivals, inlets)
    if at is not None:
        raise InvalidArrivals(at)


def wrong_arrival(arrivals, inlets):
    """The index of the first thing that is wrong in arrivals for these inlets, 0 for none at all, else None."""
    if not is_sequence(arrivals) or len(arrivals) != len(inlets):
        return 0
    for at, row in enumerate(arrivals):
        if not isinstance(row, Row) or row.time(0) is None or row.time(0) < 0:
            return at
    return None


def check_place(place, places):
    """Refuse what is none of these places."""
    if not is_one_of(place, places):
        raise NoPlace(place)


def course(house, name, arrivals):
    """The rows of all places in the run: a dict."""
    module = house[name]
    check_arrivals(arrivals, module.inlets)
    return _rows_with(house, module, arrivals, [])


def sums_from(house, name, place):
    """The greatest sums of lasts on ways from a place to each place, by how many marks these have at most: a dict."""
    places, links = house.flat(name)
    return net_solved(places, links, [], [(place, unit())])


def late_course(house, name, arrivals, lates):
    """The rows of all places in the run, and those with late goings."""
    rows = course(house, name, arrivals)
    for place, _, _ in lates:
        check_place(place, list(rows))
    # Nothing is known of goings ahead of a late one; later ones wait for it.
    held = [(place, Row([None] * n, [rows[place].time(n) + d])) for place, n, d in lates]
    return rows, _rows_with(house, house[name], arrivals, held)


def _rows_with(house, module, arrivals, held):
    """The rows of all places that wait for their links, and for these rows, too."""
    places, links = house.flat(module.name)
    # What waits for a going with the same number is not ahead of 0 by this alone.
    later_ones = {then: True for _, then, marks, _ in links if marks == 0}
    coming = [(place, unit()) for place in places if place not in module.inlets and place not in later_ones]
    coming.extend(list(zip(module.inlets, arrivals)))
    coming.extend(held)
    return net_solved(places, links, [], coming)
