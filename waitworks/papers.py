"""What papers tell, looked at by themselves: forms, sums and comparisons.

Places and links are those of a flat module. Nothing here asks how papers are made.
"""

from waitworks.kinds import are_pairs, is_integer, is_number, is_one_of, is_tuple_of
from waitworks.paths import gains, is_ring, is_way, ratio


def over(links, beat):
    """By how much links last longer than the beat times their marks."""
    return gains(links, (beat, 1))


def starts(places, wants):
    """The greatest number that is wanted for each place, or 0: a dict."""
    found = {place: 0 for place in places}
    for place, number in wants:
        found[place] = max(found[place], number)
    return found


def limits(wishes):
    """The least number that is wished for each place: a dict."""
    found = {}
    for place, number in wishes:
        found[place] = min(number, found.get(place, number))
    return found


def rises_by(heights, links, weights):
    """Whether what the end of each link has is at least what its beginning has, and its weight more."""
    return all([heights[link[1]] >= heights[link[0]] + weight for link, weight in zip(links, weights)])


def is_table(value, places, links, weights):
    """Whether any value is a timetable that rises along links by these weights at least."""
    if not are_pairs(value, places) or any([time < 0 for _, time in value]):
        return False
    return rises_by(dict(value), links, weights)


def is_slow_ring(value, links, beat):
    """Whether any value is a ring that lasts more than the beat times its marks."""
    return is_ring(value, links) and sum(over(value, beat)) > 0


def is_clash(value, places, links, beat, wants, wishes):
    """Whether any value is a paper that no kept timetable keeps these wants and wishes."""
    if is_tuple_of(value, 2) and is_one_of(value[0], ("ring",)):
        return is_slow_ring(value[1], links, beat)
    if not is_tuple_of(value, 3) or not is_one_of(value[0], ("way",)):
        return False
    _, place, way = value
    if not is_one_of(place, places) or not is_way(way, place, links):
        return False
    end = way[-1][1] if len(way) > 0 else place
    most = limits(wishes)
    return end in most and starts(places, wants)[place] + sum(over(way, beat)) > most[end]


def margin_of(ring, beat):
    """What a ring has to spare by the number of its links: a value."""
    top, bottom = ratio(counted(ring, beat))
    return (-top, bottom)


def counted(links, beat):
    """Links that last as long as these do over their time, and have one mark each."""
    return [(link[0], link[1], 1, more) for link, more in zip(links, over(links, beat))]


def margin_weights(links, beat, value):
    """By how much integers rise at least along links that have this value to spare."""
    top, bottom = value
    return [bottom * more + top for more in over(links, beat)]


def is_margin_paper(value, places, links, beat):
    """Whether any value is a margin paper."""
    if not is_tuple_of(value, 2) or not is_ring(value[0], links) or not are_pairs(value[1], places):
        return False
    return rises_by(dict(value[1]), links, margin_weights(links, beat, margin_of(value[0], beat)))


def is_rate_paper(value, feeders, links):
    """Whether any value is a right paper for the rate of a place that these feed by these links."""
    if not is_tuple_of(value, 2) or not are_pairs(value[1], feeders):
        return False
    ring, pairs = value
    if not is_tuple_of(ring, 0) and not is_ring(ring, links):
        return False
    return rises_by(dict(pairs), links, gains(links, pace_of(ring)))


def pace_of(ring):
    """The ratio of a ring, or what stands for none."""
    return ratio(ring) if len(ring) > 0 else (0, 1)


def spares_by(links, beat, table):
    """What each link has to spare by a timetable."""
    times = dict(table)
    return tuple([times[then] + beat * marks - times[first] - lasts for first, then, marks, lasts in links])


def is_late_paper(value, places, links, spares, place, d):
    """Whether any value is a late paper for a place and how late it is, if links have so much to spare."""
    if not isinstance(value, tuple) or not all([_is_late_pair(pair, places) for pair in value]):
        return False
    names = [pair[0] for pair in value]
    if names != sorted(set(names)):
        return False
    late = dict(value)
    handed = [(link[1], late.get(link[0], 0) - spare) for link, spare in zip(links, spares)]
    return all([late.get(end, 0) >= how for end, how in [(place, d), *handed]])


def _is_late_pair(pair, places):
    """Whether this is a pair of one of these places and a number from 1 on."""
    return is_tuple_of(pair, 2) and is_one_of(pair[0], places) and is_integer(pair[1]) and pair[1] > 0


def gap(link, n, times):
    """How much later the n-th logged going at the end of a link is than the one that it waits for."""
    first, then, marks, _ = link
    return times[then][n] - times[first][n - marks]


def is_blame(value, inlets, links, times):
    """Whether any value is a blame, if goings were logged at these times: a dict with those of all places."""
    if is_tuple_of(value, 3) and is_one_of(value[0], ("early",)):
        _, at, n = value
        if not _is_index(at, links) or not _is_index(n, times[links[at][1]]) or n < links[at][2]:
            return False
        return gap(links[at], n, times) < 0
    if not is_tuple_of(value, 4) or not is_one_of(value[0], ("late",)):
        return False
    _, place, n, others = value
    if not is_one_of(place, list(times)) or place in inlets or not _is_index(n, times[place]):
        return False
    coming = [link for link in links if link[1] == place]
    if times[place][n] <= max([0, *times[place][:n]]) or not is_tuple_of(others, len(coming)):
        return False
    return all([_is_too_short(link, m, n, times) for link, m in zip(coming, others)])


def _is_index(value, things):
    """Whether this is the number of one of these things."""
    return is_number(value) and value < len(things)


def _is_too_short(link, m, n, times):
    """Whether a logged going m shows that its link cannot make the going n so late; None if it is not asked."""
    if n < link[2] or m is None:
        return n < link[2] and m is None
    return _is_index(m, times[link[1]]) and m >= link[2] and gap(link, m, times) < gap(link, n, times)


def are_cuts(value, links, prices):
    """Whether any value is a tuple of pairs of a link's number, ascending, and how much shorter it can be made."""
    if not isinstance(value, tuple) or not all([_is_cut(pair, links, prices) for pair in value]):
        return False
    return all([pair[0] < behind[0] for pair, behind in zip(value, value[1:])])


def _is_cut(pair, links, prices):
    """Whether this is a pair of the number of a link with a price, and at most how long it lasts."""
    if not is_tuple_of(pair, 2) or not _is_index(pair[0], links) or prices[pair[0]] is None:
        return False
    return is_integer(pair[1]) and 1 <= pair[1] <= links[pair[0]][3]


def shortened(links, cuts):
    """These links, each lasting less by what is cut of it: pairs of a link's number and a cut."""
    less = dict(list(cuts))
    return [(*link[:3], link[3] - less.get(at, 0)) for at, link in enumerate(links)]


def cost_of(cuts, prices):
    """What these cuts cost."""
    return sum([prices[at] * cut for at, cut in cuts])


def is_flow(value, links):
    """Whether any value is a tuple of a number for each link, and as much comes to each place as goes."""
    if not is_tuple_of(value, len(links)) or not all([is_number(much) for much in value]):
        return False
    left = {}
    for (first, then, _, _), much in zip(links, value):
        left[first] = left.get(first, 0) - much
        left[then] = left.get(then, 0) + much
    return all([much == 0 for much in list(left.values())])


def worth_of(flow, links, beat, prices):
    """What a flow is worth."""
    found = 0
    for (_, _, marks, lasts), price, much in zip(links, prices, flow):
        found += lasts * (much if price is None else min(much, price)) - beat * marks * much
    return found
