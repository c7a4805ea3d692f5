"""Rings of links: the slowest ones, and the highest sums on ways.

A link is a tuple (first, then, marks, lasts); each ring of links has a mark at least.
"""

from math import gcd, lcm

from waitworks.paths import feeding, firsts_of, gains, leading_to, ratio


def parts(places, links):
    """Lists of the places that feed one another, each behind those that feed it."""
    here = {place: True for place in places}
    firsts = firsts_of([link for link in links if link[0] in here and link[1] in here])
    feeders = {place: leading_to(place, firsts) for place in places}
    order = sorted([(len(feeders[place]), at) for at, place in enumerate(places)])
    done = {}
    found = []
    for _, at in order:
        place = places[at]
        if place not in done:
            part = [other for other in feeders[place] if place in feeders[other]]
            found.append(part)
            done.update({other: True for other in part})
    return found


def heights_or_ring(places, links, weights):
    """(heights, ()), the greatest sums of weights on ways to places, or (None, some ring of a sum above 0)."""
    heights = {place: 0 for place in places}
    if len(links) == 0:
        return heights, ()
    came = {}
    changed = []
    for _ in places:
        changed = []
        for link, weight in zip(links, weights):
            first, then, _, _ = link
            if heights[first] + weight > heights[then]:
                heights[then] = heights[first] + weight
                came[then] = link
                changed.append(then)
        if len(changed) == 0:
            return heights, ()
    return None, _ring_back(changed[0], came)


def _ring_back(place, came):
    """The ring to which the links by which places were reached lead back from this place."""
    here = place
    for _ in list(came):
        here = came[here][0]
    ring = [came[here]]
    while ring[-1][0] != here:
        ring.append(came[ring[-1][0]])
    ring.reverse()
    return tuple(ring)


def highest_ways(start, links, weights):
    """The greatest sums of what places have at the start and of weights on ways from there (no ring gains): a dict.

    And the last links of such ways, without those of no links: another dict.
    """
    heights = dict(start)
    came = {}
    changed = True
    while changed:
        changed = False
        for link, weight in zip(links, weights):
            first, then, _, _ = link
            if first in heights and (then not in heights or heights[first] + weight > heights[then]):
                heights[then] = heights[first] + weight
                came[then] = link
                changed = True
    return heights, came


def way_to(place, came):
    """The way to a place by the last links of ways."""
    way = []
    here = place
    while here in came:
        way.append(came[here])
        here = came[here][0]
    way.reverse()
    return tuple(way)


def slowest_ring(places, links):
    """Some ring of the greatest ratio; () if there is no ring."""
    ring = ()
    better = heights_or_ring(places, links, [1] * len(links))[1]
    while len(better) > 0:
        ring = better
        better = heights_or_ring(places, links, gains(links, ratio(ring)))[1]
    return ring


def on_slowest_rings(places, links, pace):
    """The numbers of the links on rings of this pace, if no ring has a greater one."""
    weights = gains(links, pace)
    heights = heights_or_ring(places, links, weights)[0]
    tight = [at for at, link in enumerate(links) if heights[link[1]] == heights[link[0]] + weights[at]]
    kept = [links[at] for at in tight]
    return [at for at in tight if links[at][1] in feeding(kept, links[at][0])]


def turn_of_rings(places, links, pace):
    """After how many goings all comes again that rings of this pace, the greatest one, drive."""
    some = [links[at] for at in on_slowest_rings(places, links, pace)]
    turn = 1
    for part in parts(places, some):
        turn = lcm(turn, _shared_marks(part[0], [link for link in some if link[0] in part]))
    return turn


def _shared_marks(place, links):
    """The greatest number that divides the marks of all rings of places that feed one another."""
    far = {place: 0}
    waiting = [place]
    while len(waiting) > 0:
        here = waiting.pop()
        for first, then, marks, _ in links:
            if first == here and then not in far:
                far[then] = far[here] + marks
                waiting.append(then)
    shared = 0
    for first, then, marks, _ in links:
        shared = gcd(shared, far[first] + marks - far[then])
    return max(shared, 1)
