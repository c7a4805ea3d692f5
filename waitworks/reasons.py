"""Chains: why a going is not earlier."""

from waitworks.courses import check_place, course
from waitworks.kinds import is_integer, is_number, is_one_of, is_tuple_of


def chain(house, name, arrivals, place, n):
    """Some chain for a going: each one in it waits just for the one behind it."""
    rows = course(house, name, arrivals)
    check_place(place, list(rows))
    inlets = house[name].inlets
    _, links = house.flat(name)
    found = [(place, n, rows[place].time(n))]
    while not _is_end(found[-1], inlets):
        found.append(_causes(found[-1], rows, links)[0])
    return tuple(found)


def chain_holds(house, name, arrivals, place, n, value):
    """Whether any value is a chain for a going."""
    rows = course(house, name, arrivals)
    check_place(place, list(rows))
    if not isinstance(value, tuple) or len(value) == 0 or not all([_is_going(step, rows) for step in value]):
        return False
    if value[0][:2] != (place, n) or not _is_end(value[-1], house[name].inlets):
        return False
    _, links = house.flat(name)
    return all([then in _causes(step, rows, links) for step, then in zip(value, value[1:])])


def _is_going(step, rows):
    """Whether this is a triple of a place, a number and the time of this going."""
    if not is_tuple_of(step, 3):
        return False
    place, n, time = step
    return is_one_of(place, list(rows)) and is_number(n) and is_integer(time) and rows[place].time(n) == time


def _is_end(step, inlets):
    """Whether a chain can end with this going."""
    return step[2] == 0 or step[0] in inlets


def _causes(step, rows, links):
    """All goings for which this one waits just so long."""
    place, n, time = step
    found = []
    for first, then, marks, lasts in links:
        if then == place and n >= marks and rows[first].time(n - marks) + lasts == time:
            found.append((first, n - marks, time - lasts))
    if n > 0 and rows[place].time(n - 1) == time:
        found.append((place, n - 1, time))
    return found
