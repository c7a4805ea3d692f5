"""Ways of links: what leads to what, and what a ring is.

A link is a tuple (first, then, marks, lasts).
"""

from waitworks.kinds import in_lowest_terms, is_link


def feeding(links, place):
    """The places from which a way of these links leads to this one, itself ahead: a dict."""
    return leading_to(place, firsts_of(links))


def firsts_of(links):
    """For each place to which links lead, the places where they begin, each once."""
    found = {}
    for first, then in {(link[0], link[1]): True for link in links}:
        found.setdefault(then, []).append(first)
    return found


def leading_to(place, firsts):
    """The places from which a way leads to this one, itself ahead: a dict."""
    found = {place: True}
    waiting = [place]
    while len(waiting) > 0:
        here = waiting.pop()
        for first in firsts.get(here, []):
            if first not in found:
                found[first] = True
                waiting.append(first)
    return found


def layers(places, links):
    """The levels of places, by links without marks: a dict; without those that a ring holds back."""
    waits = {place: 0 for place in places}
    behind = {place: [] for place in places}
    for first, then, marks, _ in links:
        if marks == 0 and first in waits and then in waits:
            waits[then] += 1
            behind[first].append(then)
    found = {}
    free = [place for place in waits if waits[place] == 0]
    level = 0
    while len(free) > 0:
        coming = []
        for place in free:
            found[place] = level
            for then in behind[place]:
                waits[then] -= 1
                if waits[then] == 0:
                    coming.append(then)
        free = coming
        level += 1
    return found


def ring_without_marks(places, links):
    """Some ring of places by links without marks, the least one ahead; () if there is none."""
    found = layers(places, links)
    held = [place for place in places if place not in found]
    if len(held) == 0:
        return ()
    # Each of these has a link from another one of them: so the way back comes to a place again.
    way = [held[0]]
    while way.count(way[-1]) < 2:
        way.append(min([first for first, then, marks, _ in links if then == way[-1] and marks == 0 and first in held]))
    ring = way[way.index(way[-1]) + 1:]
    ring.reverse()
    start = ring.index(min(ring))
    return tuple([*ring[start:], *ring[:start]])


def ratio(ring):
    """The value of what a ring lasts through its marks."""
    return in_lowest_terms(sum([link[3] for link in ring]), sum([link[2] for link in ring]))


def gains(links, pace):
    """By how much links are ahead of what this pace allows for them."""
    top, bottom = pace
    return [bottom * lasts - top * marks for _, _, marks, lasts in links]


def is_ring(value, links):
    """Whether any value is a ring of these links."""
    if not isinstance(value, tuple) or len(value) == 0 or not is_link(value[0]):
        return False
    return is_way(value, value[0][0], links) and value[-1][1] == value[0][0]


def is_way(value, place, links):
    """Whether any value is a way of these links from a place, perhaps of none."""
    if not isinstance(value, tuple) or not all([is_link(link) and link in links for link in value]):
        return False
    begins = [link[0] for link in value]
    reached = [place, *[link[1] for link in value]]
    return len(set(begins)) == len(begins) and begins == reached[:-1]
