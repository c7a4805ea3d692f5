"""Chains: why a going is not earlier."""

from waitworks.checks import check_arrivals, check_place
from waitworks.courses import course
from waitworks.kinds import is_integer, is_number, is_tuple_of
from waitworks.paths import feeding, layers

# Goings with greater numbers are told by rows, not walked to.
MOST_WALKED = 200


def chain(house, name, arrivals, place, n):
    """Some chain for a going: each one in it waits just for the one behind it."""
    rows = course(house, name, arrivals)
    check_place(place, list(rows))
    inlets = house[name].inlets
    _, links = house.flat(name)
    found = [(place, n, rows[place].time(n))]
    while not _is_end(found[-1], inlets):
        found.append(_causes(found[-1], rows, links)[0])
    return tuple(found)


def chain_holds(house, name, arrivals, place, n, value):
    """Whether any value is a chain for a going."""
    inlets = house[name].inlets
    check_arrivals(arrivals, inlets)
    places, links = house.flat(name)
    check_place(place, places)
    if not isinstance(value, tuple) or len(value) == 0 or not all([_is_going(step) for step in value]):
        return False
    if value[0][:2] != (place, n) or not all([_waits(step, then, links) for step, then in zip(value, value[1:])]):
        return False
    last, m, time = value[-1]
    if time != 0 and (last not in inlets or arrivals[inlets.index(last)].time(m) != time):
        return False
    # From its end on each going is no earlier than told. If the one ahead is no later, none of the others is.
    return _time_of(house, name, arrivals, place, n) == value[0][2]


def _is_going(step):
    """Whether this is a triple of a string, a number and a time."""
    return is_tuple_of(step, 3) and isinstance(step[0], str) and is_number(step[1]) and is_integer(step[2])


def _waits(step, then, links):
    """Whether a going waits just so long for another one: for the going ahead, or by a link."""
    place, n, time = step
    first, m, start = then
    return then == (place, n - 1, time) or (first, place, n - m, time - start) in links


def _time_of(house, name, arrivals, place, n):
    """The time of the n-th going of a place."""
    if n > MOST_WALKED:
        return course(house, name, arrivals)[place].time(n)
    _, links = house.flat(name)
    fed = feeding(links, place)
    coming = [link for link in links if link[1] in fed]
    given = dict(list(zip(house[name].inlets, arrivals)))
    order = list(layers(list(fed), coming))
    times = {feeder: [] for feeder in order}
    ways = {feeder: [] for feeder in order}
    for first, then, marks, lasts in coming:
        ways[then].append((times[first], marks, lasts))
    for m in range(n + 1):
        for feeder in order:
            time = given[feeder].time(m) if feeder in given else 0
            times[feeder].append(_latest(ways[feeder], m, max([time, *times[feeder][-1:]])))
    return times[place][n]


def _latest(ways, n, time):
    """The latest time of the n-th going by ways from other times, and this one."""
    for times, marks, lasts in ways:
        if n >= marks and times[n - marks] + lasts > time:
            time = times[n - marks] + lasts
    return time


def _is_end(step, inlets):
    """Whether a chain can end with this going."""
    return step[2] == 0 or step[0] in inlets


def _causes(step, rows, links):
    """All goings for which this one waits just so long."""
    place, n, time = step
    found = []
    for first, then, marks, lasts in links:
        if then == place and n >= marks and rows[first].time(n - marks) + lasts == time:
            found.append((first, n - marks, time - lasts))
    if n > 0 and rows[place].time(n - 1) == time:
        found.append((place, n - 1, time))
    return found
