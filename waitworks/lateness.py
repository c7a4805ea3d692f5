"""Lateness: what late goings hand on by a timetable, and when it ends."""

from waitworks.checks import check_place
from waitworks.courses import sums_from
from waitworks.papers import is_late_paper, spares_by
from waitworks.paths import layers
from waitworks.rings import highest_ways, way_to
from waitworks.rows import Row, is_empty, last_above, later, nothings


def spares(house, name, beat, table):
    """What each link has to spare."""
    _, links = house.flat(name)
    return spares_by(links, beat, table)


def unspared(house, name, beat, table):
    """The numbers of the links that have nothing to spare."""
    return tuple([at for at, spare in enumerate(spares(house, name, beat, table)) if spare == 0])


def late_goings(house, name, beat, table, lates):
    """The triples of a place, a number and how late this going is, of all late ones; None if endlessly many are."""
    places, _ = house.flat(name)
    for place, _, _ in lates:
        check_place(place, places)
    found = {}
    for place, n, d in lates:
        for other, late, until in _handed_on(house, name, beat, table, place, d):
            if until is None:
                return None
            for k in range(nothings(late), until):
                how = late.time(k) - beat * k
                if how > found.get((other, n + k), 0):
                    found[other, n + k] = how
    return tuple(sorted([(place, n, how) for (place, n), how in found.items()]))


def _handed_on(house, name, beat, table, place, d):
    """What a late going hands on: a triple for each place to which a way leads.

    The row of the k-th goings behind it (how late each is, and k beats more), and the least k from which on
    none is late, None if there is none.
    """
    times = dict(table)
    beats = Row((), (0,), beat)
    found = []
    for other, sums in sums_from(house, name, place).items():
        if not is_empty(sums):
            late = later(sums, 0, d + times[place] - times[other])
            found.append((other, late, last_above(late, beats)))
    return found


def most_late(house, name, beat, table, place, d):
    """The pairs of a place and how late its goings are at most, if one of a place is so late."""
    heights, _ = _lateness(house, name, beat, table, place, d)
    return tuple([(other, heights[other]) for other in sorted(list(heights)) if heights[other] > 0])


def _lateness(house, name, beat, table, place, d):
    """How late places are at most (or not, below 1), and the last links of the ways by which they get it."""
    places, links = house.flat(name)
    check_place(place, places)
    return highest_ways({place: d}, links, [-spare for spare in spares(house, name, beat, table)])


def gone_after(house, name, beat, table, place, d):
    """The greatest number of goings behind a late one at which some place is late; None if there is none."""
    check_place(place, house.flat(name)[0])
    ends = [until for _, _, until in _handed_on(house, name, beat, table, place, d)]
    return None if None in ends else max(ends) - 1


def unharmed(house, name, beat, table, place, other):
    """How late a going of a place can be while none of another one is; None if there is no bound."""
    heights, _ = _lateness(house, name, beat, table, place, 0)
    check_place(other, house.flat(name)[0])
    return -heights[other] if other in heights else None


def stays(house, name, beat, table):
    """The places at which each lateness makes some goings late for ever, ascending."""
    places, links = house.flat(name)
    if beat == 0:
        return places
    # Who leads to no ring without spares is found from the ends of ways of such links.
    back = [(links[at][1], links[at][0], 0, 0) for at in unspared(house, name, beat, table)]
    ending = layers(places, back)
    return tuple([place for place in places if place not in ending])


def late_way(house, name, beat, table, place, d, other):
    """Some way by which a going of another place becomes as late as it can; None if none is late."""
    heights, came = _lateness(house, name, beat, table, place, d)
    check_place(other, house.flat(name)[0])
    return way_to(other, came) if heights.get(other, 0) > 0 else None


def late_holds(house, name, beat, table, place, d, value):
    """Whether any value is a late paper for a place and how late it is."""
    places, links = house.flat(name)
    check_place(place, places)
    return is_late_paper(value, places, links, spares_by(links, beat, table), place, d)
