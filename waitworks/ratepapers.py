"""Rate papers: a ring, and heights that show that none is slower."""

from waitworks.kinds import are_pairs, is_tuple_of
from waitworks.rates import feeders_and_links
from waitworks.rings import gains, heights_or_ring, is_ring, ratio, slowest_ring


def rate_paper(house, name, place):
    """Some right paper for the rate of a place."""
    feeders, numbered = feeders_and_links(house, name, place)
    links = [link for _, link in numbered]
    ring = slowest_ring(feeders, links)
    heights, _ = heights_or_ring(feeders, links, gains(links, _pace_of(ring)))
    return (ring, tuple([(feeder, heights[feeder]) for feeder in feeders]))


def rate_holds(house, name, place, value):
    """Whether any value is a right paper for the rate of a place."""
    feeders, numbered = feeders_and_links(house, name, place)
    links = [link for _, link in numbered]
    if not is_tuple_of(value, 2) or not are_pairs(value[1], feeders):
        return False
    ring, pairs = value
    if not is_tuple_of(ring, 0) and not is_ring(ring, links):
        return False
    heights = dict(pairs)
    weights = gains(links, _pace_of(ring))
    return all([heights[link[1]] >= heights[link[0]] + weight for link, weight in zip(links, weights)])


def _pace_of(ring):
    """The ratio of a ring, or what stands for none."""
    return ratio(ring) if len(ring) > 0 else (0, 1)
