"""Timetables: the n-th going of each place at a time of its own, and a beat times n."""

from waitworks.checks import check_pairs, check_place
from waitworks.papers import (
    counted, is_clash, is_margin_paper, is_table, limits, margin_of, margin_weights, over, starts,
)
from waitworks.paths import ratio
from waitworks.rings import heights_or_ring, highest_ways, slowest_ring, way_to


def least_round(house, name):
    """The greatest value of lasts by marks of all rings; (0, 1) without one."""
    ring = slowest(house, name)
    return (0, 1) if ring is None else ratio(ring)


def slowest(house, name):
    """Some ring with the greatest value of lasts by marks, or None."""
    places, links = house.flat(name)
    ring = slowest_ring(places, links)
    return ring if len(ring) > 0 else None


def too_slow(house, name, beat):
    """Some ring that lasts more than the beat times its marks, or None."""
    places, links = house.flat(name)
    ring = heights_or_ring(places, links, over(links, beat))[1]
    return ring if len(ring) > 0 else None


def timetable(house, name, beat, wants=()):
    """The kept timetable with the least times in which no place is ahead of what is wanted; or None."""
    places, links = house.flat(name)
    check_pairs(wants, places)
    return _least_table(places, links, over(links, beat), wants)


def spared(house, name, beat, more):
    """The kept timetable with the least times in which each link can last so much more; or None."""
    places, links = house.flat(name)
    return _least_table(places, links, [weight + more for weight in over(links, beat)], ())


def _least_table(places, links, weights, wants):
    """The least times, from what is wanted on, that are at the end of each link so much greater; or None."""
    if heights_or_ring(places, links, weights)[0] is None:
        return None
    times, _ = highest_ways(starts(places, wants), links, weights)
    return tuple([(place, times[place]) for place in places])


def timetable_holds(house, name, beat, value):
    """Whether any value is a kept timetable."""
    places, links = house.flat(name)
    return is_table(value, places, links, over(links, beat))


def latest_times(house, name, beat, wishes):
    """The pairs of a place and its latest time in kept timetables with no place behind its wish; or None."""
    places, links = house.flat(name)
    check_pairs(wishes, places)
    if too_slow(house, name, beat) is not None:
        return None
    back = [(then, first, marks, lasts) for first, then, marks, lasts in links]
    ends = {place: -number for place, number in limits(wishes).items()}
    heights, _ = highest_ways(ends, back, over(links, beat))
    if any([heights[place] > 0 for place in heights]):
        return None
    return tuple([(place, -heights[place]) for place in sorted(list(heights))])


def clash(house, name, beat, wants, wishes):
    """Some paper that no kept timetable keeps these wants and wishes; None if one does."""
    places, links = house.flat(name)
    check_pairs(wants, places)
    check_pairs(wishes, places)
    ring = too_slow(house, name, beat)
    if ring is not None:
        return ("ring", ring)
    times, came = highest_ways(starts(places, wants), links, over(links, beat))
    for place, limit in limits(wishes).items():
        if times[place] > limit:
            way = way_to(place, came)
            return ("way", way[0][0] if len(way) > 0 else place, way)
    return None


def clash_holds(house, name, beat, wants, wishes, value):
    """Whether any value is a paper that no kept timetable keeps these wants and wishes."""
    places, links = house.flat(name)
    check_pairs(wants, places)
    check_pairs(wishes, places)
    return is_clash(value, places, links, beat, wants, wishes)


def span(house, name, beat, one, other):
    """The least and the greatest difference of two times in kept timetables, None for no bound; or None."""
    places, links = house.flat(name)
    check_place(one, places)
    check_place(other, places)
    if too_slow(house, name, beat) is not None:
        return None
    least = highest_ways({other: 0}, links, over(links, beat))[0].get(one)
    most = highest_ways({one: 0}, links, over(links, beat))[0].get(other)
    return (least, None if most is None else -most)


def margin(house, name, beat):
    """The least value of what rings have to spare, by the number of their links; None without a ring."""
    ring = _narrowest_ring(house, name, beat)
    return None if ring is None else margin_of(ring, beat)


def _narrowest_ring(house, name, beat):
    """Some ring with the least to spare by the number of its links; None without a ring."""
    places, links = house.flat(name)
    some = counted(links, beat)
    ring = slowest_ring(places, some)
    return tuple([links[some.index(link)] for link in ring]) if len(ring) > 0 else None


def margin_paper(house, name, beat):
    """Some margin paper; None without a ring."""
    ring = _narrowest_ring(house, name, beat)
    if ring is None:
        return None
    places, links = house.flat(name)
    heights, _ = heights_or_ring(places, links, margin_weights(links, beat, margin_of(ring, beat)))
    return (ring, tuple([(place, heights[place]) for place in places]))


def margin_holds(house, name, beat, value):
    """Whether any value is a margin paper."""
    places, links = house.flat(name)
    return is_margin_paper(value, places, links, beat)
