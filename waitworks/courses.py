"""How all goes: the rows of all places of a module, for told arrivals."""

from waitworks.errors import InvalidArrivals, NoPlace
from waitworks.kinds import is_one_of, is_sequence
from waitworks.rows import Row, unit
from waitworks.solving import solved


def check_arrivals(arrivals, inlets):
    """Refuse what are no arrivals for these inlets."""
    if not is_sequence(arrivals) or len(arrivals) != len(inlets):
        raise InvalidArrivals(0)
    for at, row in enumerate(arrivals):
        if not isinstance(row, Row) or row.time(0) is None or row.time(0) < 0:
            raise InvalidArrivals(at)


def check_place(place, places):
    """Refuse what is none of these places."""
    if not is_one_of(place, places):
        raise NoPlace(place)


def course(house, name, arrivals):
    """The rows of all places in the run: a dict."""
    module = house[name]
    check_arrivals(arrivals, module.inlets)
    return _rows_with(house, module, arrivals, [])


def late_course(house, name, arrivals, lates):
    """The rows of all places in the run, and those with late goings."""
    rows = course(house, name, arrivals)
    for place, _, _ in lates:
        check_place(place, list(rows))
    # Nothing is known of goings ahead of a late one; later ones wait for it.
    held = [(place, Row([None] * n, [rows[place].time(n) + d])) for place, n, d in lates]
    return rows, _rows_with(house, house[name], arrivals, held)


def _rows_with(house, module, arrivals, held):
    """The rows of all places that wait for their links, and for these rows, too."""
    places, links = house.flat(module.name)
    coming = [(place, unit()) for place in places if place not in module.inlets]
    coming.extend(list(zip(module.inlets, arrivals)))
    coming.extend(held)
    # What comes from outside gets numbers for names, which no place has.
    outside = [(at, place, 0, 0) for at, (place, _) in enumerate(coming)]
    return solved(places, [*links, *outside], {at: row for at, (_, row) in enumerate(coming)})
