"""Flows: what shows that no mend costs less."""

from waitworks.papers import is_flow, worth_of
from waitworks.streams import best_flow


def flow(house, name, beat, prices):
    """Some flow that is worth what the cheapest mend costs; None if there is no mend."""
    places, links = house.flat(name)
    found = best_flow(places, links, beat, prices)
    return None if found is None else tuple(found)


def flow_holds(house, name, beat, prices, value):
    """Whether any value is a flow that is worth what the cheapest mend costs."""
    places, links = house.flat(name)
    if not is_flow(value, links):
        return False
    found = best_flow(places, links, beat, prices)
    return found is not None and worth_of(value, links, beat, prices) == worth_of(found, links, beat, prices)
