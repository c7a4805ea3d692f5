"""Crowds: how many goings are on the way along links, and wait at their ends."""

from waitworks.checks import check_place
from waitworks.courses import course
from waitworks.heaps import heaps
from waitworks.rows import later


def on_link(house, name, arrivals, at):
    """The heap of what is on a link: its marks, and how often its first place has gone more often."""
    rows = course(house, name, arrivals)
    return _on(house.flat(name)[1][at], rows)


def _on(link, rows):
    """The heap of what is on a link, by the rows of its places."""
    first, then, marks, _ = link
    return heaps(later(rows[first], marks, 0), rows[then])


def under_way(house, name, arrivals, at):
    """The heap of the goings at the beginning of a link that have not lasted as long as it does."""
    rows = course(house, name, arrivals)
    first, _, _, lasts = house.flat(name)[1][at]
    return heaps(rows[first], later(rows[first], 0, lasts))


def waiting(house, name, arrivals, at):
    """The heap of what waits at the end of a link."""
    rows = course(house, name, arrivals)
    first, then, marks, lasts = house.flat(name)[1][at]
    return heaps(later(rows[first], marks, lasts), rows[then])


def most_on_links(house, name, arrivals):
    """For each link the greatest heap on it, or None."""
    rows = course(house, name, arrivals)
    return tuple([_most_on(link, rows) for link in house.flat(name)[1]])


def _most_on(link, rows):
    """The greatest heap on a link, or None."""
    # What comes quicker than it goes heaps up without end.
    if rows[link[0]].rate != rows[link[1]].rate:
        return None
    heap = _on(link, rows)
    return None if heap is None else heap.most()[0]


def counts_at(house, name, arrivals, time):
    """The pairs of a place and how many goings of it have been by a time (None for endless), ascending."""
    rows = course(house, name, arrivals)
    return tuple([(place, rows[place].count(time)) for place in sorted(list(rows))])


def holds_up(house, name, arrivals, place, time):
    """The numbers of the links to a place at whose end nothing waits; () if endlessly many goings have been."""
    rows = course(house, name, arrivals)
    check_place(place, list(rows))
    gone = rows[place].count(time)
    if gone is None:
        return ()
    found = []
    for at, (first, then, marks, lasts) in enumerate(house.flat(name)[1]):
        come = rows[first].count(time - lasts)
        if then == place and come is not None and marks + come == gone:
            found.append(at)
    return tuple(found)
