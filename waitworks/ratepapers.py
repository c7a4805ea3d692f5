"""Rate papers: a ring, and heights that show that none is slower."""

from waitworks.papers import is_rate_paper, pace_of
from waitworks.paths import gains
from waitworks.rates import feeders_and_links
from waitworks.rings import heights_or_ring, slowest_ring


def rate_paper(house, name, place):
    """Some right paper for the rate of a place."""
    feeders, numbered = feeders_and_links(house, name, place)
    links = [link for _, link in numbered]
    ring = slowest_ring(feeders, links)
    heights, _ = heights_or_ring(feeders, links, gains(links, pace_of(ring)))
    return (ring, tuple([(feeder, heights[feeder]) for feeder in feeders]))


def rate_holds(house, name, place, value):
    """Whether any value is a right paper for the rate of a place."""
    feeders, numbered = feeders_and_links(house, name, place)
    links = [link for _, link in numbered]
    return is_rate_paper(value, feeders, links)
