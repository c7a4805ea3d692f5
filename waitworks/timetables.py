"""Timetables: the n-th going of each place at a time of its own, and a beat times n."""

from waitworks.courses import check_place
from waitworks.kinds import are_pairs, is_one_of, is_tuple_of
from waitworks.rings import gains, heights_or_ring, highest_ways, is_ring, is_way, ratio, slowest_ring, way_to


def least_round(house, name):
    """The greatest value of lasts by marks of all rings; (0, 1) without one."""
    ring = slowest(house, name)
    return (0, 1) if ring is None else ratio(ring)


def slowest(house, name):
    """Some ring with the greatest value of lasts by marks, or None."""
    places, links = house.flat(name)
    ring = slowest_ring(places, links)
    return ring if len(ring) > 0 else None


def too_slow(house, name, beat):
    """Some ring that lasts more than the beat times its marks, or None."""
    places, links = house.flat(name)
    ring = heights_or_ring(places, links, _over(links, beat))[1]
    return ring if len(ring) > 0 else None


def _over(links, beat):
    """By how much links last longer than the beat times their marks."""
    return gains(links, (beat, 1))


def timetable(house, name, beat, wants=()):
    """The kept timetable with the least times in which no place is ahead of what is wanted; or None."""
    places, links = house.flat(name)
    _check_pairs(wants, places)
    return _least_table(places, links, _over(links, beat), wants)


def spared(house, name, beat, more):
    """The kept timetable with the least times in which each link can last so much more; or None."""
    places, links = house.flat(name)
    return _least_table(places, links, [over + more for over in _over(links, beat)], ())


def _check_pairs(pairs, places):
    """Refuse the first of these pairs of a place and a number with a place that there is not."""
    for place, _ in pairs:
        check_place(place, places)


def _least_table(places, links, weights, wants):
    """The least times, from what is wanted on, that are at the end of each link so much greater; or None."""
    if heights_or_ring(places, links, weights)[0] is None:
        return None
    times, _ = highest_ways(_starts(places, wants), links, weights)
    return tuple([(place, times[place]) for place in places])


def _starts(places, wants):
    """The greatest number that is wanted for each place, or 0: a dict."""
    starts = {place: 0 for place in places}
    for place, number in wants:
        starts[place] = max(starts[place], number)
    return starts


def _limits(wishes):
    """The least number that is wished for each place: a dict."""
    limits = {}
    for place, number in wishes:
        limits[place] = min(number, limits.get(place, number))
    return limits


def timetable_holds(house, name, beat, value):
    """Whether any value is a kept timetable."""
    places, links = house.flat(name)
    if not are_pairs(value, places) or any([time < 0 for _, time in value]):
        return False
    return _keeps(dict(value), links, _over(links, beat))


def _keeps(times, links, weights):
    """Whether the time at the end of each link is at least that at its beginning, and its weight more."""
    return all([times[link[1]] >= times[link[0]] + weight for link, weight in zip(links, weights)])


def latest_times(house, name, beat, wishes):
    """The pairs of a place and its latest time in kept timetables with no place behind its wish; or None."""
    places, links = house.flat(name)
    _check_pairs(wishes, places)
    if too_slow(house, name, beat) is not None:
        return None
    back = [(then, first, marks, lasts) for first, then, marks, lasts in links]
    starts = {place: -number for place, number in _limits(wishes).items()}
    heights, _ = highest_ways(starts, back, _over(links, beat))
    if any([heights[place] > 0 for place in heights]):
        return None
    return tuple([(place, -heights[place]) for place in sorted(list(heights))])


def clash(house, name, beat, wants, wishes):
    """Some paper that no kept timetable keeps these wants and wishes; None if one does."""
    places, links = house.flat(name)
    _check_pairs(wants, places)
    _check_pairs(wishes, places)
    ring = too_slow(house, name, beat)
    if ring is not None:
        return ("ring", ring)
    times, came = highest_ways(_starts(places, wants), links, _over(links, beat))
    for place, limit in _limits(wishes).items():
        if times[place] > limit:
            way = way_to(place, came)
            return ("way", way[0][0] if len(way) > 0 else place, way)
    return None


def clash_holds(house, name, beat, wants, wishes, value):
    """Whether any value is a paper that no kept timetable keeps these wants and wishes."""
    places, links = house.flat(name)
    _check_pairs(wants, places)
    _check_pairs(wishes, places)
    if is_tuple_of(value, 2) and is_one_of(value[0], ("ring",)):
        return is_ring(value[1], links) and sum(_over(value[1], beat)) > 0
    if not is_tuple_of(value, 3) or not is_one_of(value[0], ("way",)):
        return False
    _, place, way = value
    if not is_one_of(place, places) or not is_way(way, place, links):
        return False
    end = way[-1][1] if len(way) > 0 else place
    limits = _limits(wishes)
    return end in limits and _starts(places, wants)[place] + sum(_over(way, beat)) > limits[end]


def span(house, name, beat, one, other):
    """The least and the greatest difference of two times in kept timetables, None for no bound; or None."""
    places, links = house.flat(name)
    check_place(one, places)
    check_place(other, places)
    if too_slow(house, name, beat) is not None:
        return None
    least = highest_ways({other: 0}, links, _over(links, beat))[0].get(one)
    most = highest_ways({one: 0}, links, _over(links, beat))[0].get(other)
    return (least, None if most is None else -most)


def margin(house, name, beat):
    """The least value of what rings have to spare, by the number of their links; None without a ring."""
    ring = _narrowest_ring(house, name, beat)
    return None if ring is None else _margin_of(ring, beat)


def _margin_of(ring, beat):
    """What a ring has to spare by the number of its links: a value."""
    top, bottom = ratio(_counted(ring, beat))
    return (-top, bottom)


def _counted(links, beat):
    """Links that last as long as these do over their time, and have one mark each."""
    return [(link[0], link[1], 1, over) for link, over in zip(links, _over(links, beat))]


def _narrowest_ring(house, name, beat):
    """Some ring with the least to spare by the number of its links; None without a ring."""
    places, links = house.flat(name)
    counted = _counted(links, beat)
    ring = slowest_ring(places, counted)
    return tuple([links[counted.index(link)] for link in ring]) if len(ring) > 0 else None


def margin_paper(house, name, beat):
    """Some margin paper; None without a ring."""
    ring = _narrowest_ring(house, name, beat)
    if ring is None:
        return None
    places, links = house.flat(name)
    heights, _ = heights_or_ring(places, links, _margin_weights(links, beat, _margin_of(ring, beat)))
    return (ring, tuple([(place, heights[place]) for place in places]))


def _margin_weights(links, beat, value):
    """By how much integers rise at least along links that have this value to spare."""
    top, bottom = value
    return [bottom * over + top for over in _over(links, beat)]


def margin_holds(house, name, beat, value):
    """Whether any value is a margin paper."""
    places, links = house.flat(name)
    if not is_tuple_of(value, 2) or not is_ring(value[0], links) or not are_pairs(value[1], places):
        return False
    return _keeps(dict(value[1]), links, _margin_weights(links, beat, _margin_of(value[0], beat)))
