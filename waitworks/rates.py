"""Rates: how fast places go in the long run, and which ring holds them up."""

from waitworks.checks import check_place
from waitworks.paths import feeding, gains, ratio
from waitworks.rings import highest_ways, on_slowest_rings, slowest_ring


def rate(house, name, place):
    """The greatest ratio of all rings that feed a place."""
    ring = slow_ring(house, name, place)
    return ratio(ring) if len(ring) > 0 else (0, 1)


def slow_ring(house, name, place):
    """Some ring with the greatest ratio of all that feed a place; () if none feeds it."""
    feeders, numbered = feeders_and_links(house, name, place)
    return slowest_ring(feeders, [link for _, link in numbered])


def binding(house, name, place):
    """The numbers of all links on rings with the greatest ratio of all that feed a place."""
    feeders, numbered = feeders_and_links(house, name, place)
    links = [link for _, link in numbered]
    ring = slowest_ring(feeders, links)
    if len(ring) == 0:
        return ()
    return tuple([numbered[at][0] for at in on_slowest_rings(feeders, links, ratio(ring))])


def room_for(house, name, place, at):
    """How much longer a link alone can last while the rate of a place stays; None if there is no bound."""
    feeders, numbered = feeders_and_links(house, name, place)
    links = [link for _, link in numbered]
    first, then, marks, lasts = house.flat(name)[1][at]
    if then not in feeders or then not in feeding(links, first):
        return None
    top, bottom = ratio(slowest_ring(feeders, links))
    longest = highest_ways({then: 0}, links, gains(links, (top, bottom)))[0][first]
    return (top * marks - bottom * lasts - longest) // bottom


def paces(house, name):
    """The pairs of a place and its rate, ascending."""
    places, _ = house.flat(name)
    return tuple([(place, rate(house, name, place)) for place in places])


def feeders_and_links(house, name, place):
    """The places that feed a place, ascending, and the pairs of a number and a link to one (and so from one)."""
    places, links = house.flat(name)
    check_place(place, places)
    fed = feeding(links, place)
    numbered = [(at, link) for at, link in enumerate(links) if link[1] in fed]
    return sorted(list(fed)), numbered
