"""Places that wait for one another by links and by rows: what comes by a row comes behind it."""

from waitworks.lines import ONCE, lines_of
from waitworks.paths import layers
from waitworks.solving import solved


def net_of(places, links, ways):
    """The net of places that keep all links and ways (first, then, row): `then` is nowhere below `first` behind a row.

    It is a pair of all places, in an order in which links without marks lead forward, and of links.
    """
    steps = list(links)
    turns = []
    for at, (first, then, row) in enumerate(ways):
        inner, rungs = ladder(row, first, then, f"turn {at}")
        turns.extend(inner)
        steps.extend(rungs)
    return list(layers([*places, *turns], steps)), steps


def net_solved(net, coming, wanted):
    """The least rows of those places of a net that are wanted: a dict.

    What is coming are pairs of a place and a row that it is nowhere below.
    """
    order, links = net
    # What comes from outside gets numbers for names, which no place has.
    steps = [(at, place, 0, 0) for at, (place, _) in enumerate(coming)]
    return solved(order, [*links, *steps], {at: row for at, (_, row) in enumerate(coming)}, wanted)


def ladder(row, first, then, name):
    """Places with such a name, and links by them, by which `then` has what `first` has behind this row.

    What comes again goes around a ring at a place of its own.
    """
    places = []
    links = []
    for at, (pair, begins) in enumerate(lines_of(row).items()):
        turn, more = pair
        place = then
        if pair != ONCE:
            place = f"{name} {at}"
            places.append(place)
            links.extend([(place, place, turn, more), (place, then, 0, 0)])
        links.extend([(first, place, n, time) for n, time in begins])
    return places, links
