"""Ways and rings of links: what leads to what, and which ring is the slowest.

A link is a tuple (first, then, marks, lasts); each ring of links has a mark at least.
"""

from math import gcd, lcm

from waitworks.kinds import in_lowest_terms, is_link


def feeding(links, place):
    """The places from which a way of these links leads to this one, itself ahead: a dict."""
    return _leading_to(place, _firsts_of(links))


def _firsts_of(links):
    """For each place to which links lead, the places where they begin, each once."""
    found = {}
    for first, then in {(link[0], link[1]): True for link in links}:
        found.setdefault(then, []).append(first)
    return found


def _leading_to(place, firsts):
    """The places from which a way leads to this one, itself ahead: a dict."""
    found = {place: True}
    waiting = [place]
    while len(waiting) > 0:
        here = waiting.pop()
        for first in firsts.get(here, []):
            if first not in found:
                found[first] = True
                waiting.append(first)
    return found


def parts(places, links):
    """Lists of the places that feed one another, each behind those that feed it."""
    here = {place: True for place in places}
    firsts = _firsts_of([link for link in links if link[0] in here and link[1] in here])
    feeders = {place: _leading_to(place, firsts) for place in places}
    order = sorted([(len(feeders[place]), at) for at, place in enumerate(places)])
    done = {}
    found = []
    for _, at in order:
        place = places[at]
        if place not in done:
            part = [other for other in feeders[place] if place in feeders[other]]
            found.append(part)
            done.update({other: True for other in part})
    return found


def layers(places, links):
    """The levels of places, by links without marks: a dict; without those that a ring holds back."""
    waits = [link for link in links if link[2] == 0]
    found = {}
    rest = list(places)
    level = 0
    while len(rest) > 0:
        held = {then: True for first, then, _, _ in waits if first in rest}
        free = [place for place in rest if place not in held]
        if len(free) == 0:
            return found
        found.update({place: level for place in free})
        rest = [place for place in rest if place in held]
        level += 1
    return found


def ring_without_marks(places, links):
    """Some ring of places by links without marks, the least one ahead; () if there is none."""
    found = layers(places, links)
    held = [place for place in places if place not in found]
    if len(held) == 0:
        return ()
    # Each of these has a link from another one of them: so the way back comes to a place again.
    way = [held[0]]
    while way.count(way[-1]) < 2:
        way.append(min([first for first, then, marks, _ in links if then == way[-1] and marks == 0 and first in held]))
    ring = way[way.index(way[-1]) + 1:]
    ring.reverse()
    start = ring.index(min(ring))
    return tuple([*ring[start:], *ring[:start]])


def ratio(ring):
    """The value of what a ring lasts through its marks."""
    return in_lowest_terms(sum([link[3] for link in ring]), sum([link[2] for link in ring]))


def gains(links, pace):
    """By how much links are ahead of what this pace allows for them."""
    top, bottom = pace
    return [bottom * lasts - top * marks for _, _, marks, lasts in links]


def heights_or_ring(places, links, weights):
    """(heights, ()), the greatest sums of weights on ways to places, or (None, some ring of a sum above 0)."""
    heights = {place: 0 for place in places}
    if len(links) == 0:
        return heights, ()
    came = {}
    changed = []
    for _ in places:
        changed = []
        for link, weight in zip(links, weights):
            first, then, _, _ = link
            if heights[first] + weight > heights[then]:
                heights[then] = heights[first] + weight
                came[then] = link
                changed.append(then)
        if len(changed) == 0:
            return heights, ()
    return None, _ring_back(changed[0], came)


def _ring_back(place, came):
    """The ring to which the links by which places were reached lead back from this place."""
    here = place
    for _ in list(came):
        here = came[here][0]
    ring = [came[here]]
    while ring[-1][0] != here:
        ring.append(came[ring[-1][0]])
    ring.reverse()
    return tuple(ring)


def highest_ways(start, links, weights):
    """The greatest sums of what places have at the start and of weights on ways from there (no ring gains): a dict.

    And the last links of such ways, without those of no links: another dict.
    """
    heights = dict(start)
    came = {}
    changed = True
    while changed:
        changed = False
        for link, weight in zip(links, weights):
            first, then, _, _ = link
            if first in heights and (then not in heights or heights[first] + weight > heights[then]):
                heights[then] = heights[first] + weight
                came[then] = link
                changed = True
    return heights, came


def way_to(place, came):
    """The way to a place by the last links of ways."""
    way = []
    here = place
    while here in came:
        way.append(came[here])
        here = came[here][0]
    way.reverse()
    return tuple(way)


def slowest_ring(places, links):
    """Some ring of the greatest ratio; () if there is no ring."""
    ring = ()
    better = heights_or_ring(places, links, [1] * len(links))[1]
    while len(better) > 0:
        ring = better
        better = heights_or_ring(places, links, gains(links, ratio(ring)))[1]
    return ring


def on_slowest_rings(places, links, pace):
    """The numbers of the links on rings of this pace, if no ring has a greater one."""
    weights = gains(links, pace)
    heights = heights_or_ring(places, links, weights)[0]
    tight = [at for at, link in enumerate(links) if heights[link[1]] == heights[link[0]] + weights[at]]
    kept = [links[at] for at in tight]
    return [at for at in tight if links[at][1] in feeding(kept, links[at][0])]


def turn_of_rings(places, links, pace):
    """After how many goings all comes again that rings of this pace, the greatest one, drive."""
    some = [links[at] for at in on_slowest_rings(places, links, pace)]
    turn = 1
    for part in parts(places, some):
        turn = lcm(turn, _shared_marks(part[0], [link for link in some if link[0] in part]))
    return turn


def _shared_marks(place, links):
    """The greatest number that divides the marks of all rings of places that feed one another."""
    far = {place: 0}
    waiting = [place]
    while len(waiting) > 0:
        here = waiting.pop()
        for first, then, marks, _ in links:
            if first == here and then not in far:
                far[then] = far[here] + marks
                waiting.append(then)
    shared = 0
    for first, then, marks, _ in links:
        shared = gcd(shared, far[first] + marks - far[then])
    return max(shared, 1)


def is_ring(value, links):
    """Whether any value is a ring of these links."""
    if not isinstance(value, tuple) or len(value) == 0 or not is_link(value[0]):
        return False
    return is_way(value, value[0][0], links) and value[-1][1] == value[0][0]


def is_way(value, place, links):
    """Whether any value is a way of these links from a place, perhaps of none."""
    if not isinstance(value, tuple) or not all([is_link(link) and link in links for link in value]):
        return False
    begins = [link[0] for link in value]
    reached = [place, *[link[1] for link in value]]
    return len(set(begins)) == len(begins) and begins == reached[:-1]
