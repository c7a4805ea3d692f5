"""Chains: why a going is not earlier."""

from waitworks.checks import check_arrivals, check_place
from waitworks.courses import course
from waitworks.walking import is_chain, time_walked

# Goings with greater numbers are told by rows, not walked to.
MOST_WALKED = 200


def chain(house, name, arrivals, place, n):
    """Some chain for a going: each one in it waits just for the one behind it."""
    rows = course(house, name, arrivals)
    check_place(place, list(rows))
    inlets = house[name].inlets
    _, links = house.flat(name)
    found = [(place, n, rows[place].time(n))]
    while not _is_end(found[-1], inlets):
        found.append(_causes(found[-1], rows, links)[0])
    return tuple(found)


def chain_holds(house, name, arrivals, place, n, value):
    """Whether any value is a chain for a going."""
    inlets = house[name].inlets
    check_arrivals(arrivals, inlets)
    places, links = house.flat(name)
    check_place(place, places)
    given = dict(list(zip(inlets, arrivals)))
    if not is_chain(value, place, n, links, given):
        return False
    if n > MOST_WALKED:
        return course(house, name, arrivals)[place].time(n) == value[0][2]
    return time_walked(place, n, links, given) == value[0][2]


def _is_end(step, inlets):
    """Whether a chain can end with this going."""
    return step[2] == 0 or step[0] in inlets


def _causes(step, rows, links):
    """All goings for which this one waits just so long."""
    place, n, time = step
    found = []
    for first, then, marks, lasts in links:
        if then == place and n >= marks and rows[first].time(n - marks) + lasts == time:
            found.append((first, n - marks, time - lasts))
    if n > 0 and rows[place].time(n - 1) == time:
        found.append((place, n - 1, time))
    return found
