"""Cheap papers: cuts, a table that keeps the beat, and a flow that shows that no cuts cost less."""

from waitworks.mends import cheapest_cuts, times_by
from waitworks.streams import best_flow


def cheap_paper(house, name, beat, prices):
    """Some cheap paper; None if there is no mend."""
    places, links = house.flat(name)
    flows = best_flow(places, links, beat, prices)
    if flows is None:
        return None
    times = times_by(places, links, beat, prices, flows)
    table = tuple([(place, times[place]) for place in places])
    return (cheapest_cuts(links, beat, times), table, tuple(flows))
