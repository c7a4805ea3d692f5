"""How all goes: the rows of all places of a module, for told arrivals."""

from waitworks.checks import check_arrivals, check_place
from waitworks.rows import Row, unit
from waitworks.solving import solved

# What comes from outside has numbers for names, which no place has; this is the row of zeros.
START = -1


def course(house, name, arrivals):
    """The rows of all places in the run: a dict."""
    module = house[name]
    check_arrivals(arrivals, module.inlets)
    return _rows_with(house, module, arrivals, [], house.flat(name)[0])


def sums_from(house, name, place):
    """The greatest sums of lasts on ways from a place to each place, by how many marks these have at most: a dict."""
    return _sums_for(house, name, place, house.flat(name)[0])


def _sums_for(house, name, place, wanted):
    """These sums for the places that are wanted."""
    _, links = house.flat(name)
    return solved(list(house.levels(name)), [*links, (START, place, 0, 0)], {START: unit()}, wanted)


def all_courses(house, name, wanted):
    """What tells how places go for all arrivals: for each inlet, and at last for the clock, the rows of these places.

    Behind an inlet a place goes by its row there; by that of the clock it goes if all arrivals are at 0.
    """
    module = house[name]
    courses = [_sums_for(house, name, inlet, wanted) for inlet in module.inlets]
    courses.append(_rows_with(house, module, [unit()] * len(module.inlets), [], wanted))
    return courses


def late_course(house, name, arrivals, lates):
    """The rows of all places in the run, and those with late goings."""
    rows = course(house, name, arrivals)
    for place, _, _ in lates:
        check_place(place, list(rows))
    # Nothing is known of goings ahead of a late one; later ones wait for it.
    held = [(place, Row([None] * n, [rows[place].time(n) + d])) for place, n, d in lates]
    return rows, _rows_with(house, house[name], arrivals, held, list(rows))


def _rows_with(house, module, arrivals, held, wanted):
    """The rows of places, if all wait for their links, and some for these rows, too."""
    _, links = house.flat(module.name)
    levels = house.levels(module.name)
    # What waits for a going with the same number is not ahead of 0 by this alone.
    steps = [(START, place, 0, 0) for place in levels if levels[place] == 0 and place not in module.inlets]
    coming = [*list(zip(module.inlets, arrivals)), *held]
    given = {at: row for at, (_, row) in enumerate(coming)}
    steps.extend([(at, place, 0, 0) for at, (place, _) in enumerate(coming)])
    given[START] = unit()
    return solved(list(levels), [*links, *steps], given, wanted)
