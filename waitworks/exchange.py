"""What can be exchanged: calls, and the order of two modules; and a text for each face."""

from waitworks.errors import NeverGoes
from waitworks.faces import face, face_with, in_row
from waitworks.houses import Module
from waitworks.kinds import free_names
from waitworks.lines import ONCE, lines_of
from waitworks.partings import first_unlike


def swaps(house, name):
    """The pairs of labels, the lesser one ahead, of calls that can be exchanged while the face stays."""
    module = house[name]
    labels = sorted([label for label, _ in module.calls])
    found = []
    for at, one in enumerate(labels):
        found.extend([(one, other) for other in labels[at + 1:] if _can_swap(house, module, one, other)])
    return tuple(found)


def _can_swap(house, module, one, other):
    """Whether the face stays if each of two calls calls the other one's module."""
    calls = dict(module.calls)
    called, instead = house[calls[one]], house[calls[other]]
    if called.inlets != instead.inlets or called.outlets != instead.outlets:
        return False
    faces = [face(house, called.name), face(house, instead.name)]
    if faces[0] == faces[1]:
        return True
    try:
        swapped = face_with(house, module.name, [(one, faces[1]), (other, faces[0])])
    except NeverGoes:
        return False
    return swapped == face(house, module.name)


def can_change(one, other):
    """Whether for all arrivals the goings behind both are the same in either order."""
    return first_change(one, other) is None


def first_change(one, other):
    """The least going that is another one in the other order, with all arrivals at 0; None if there is none."""
    return first_unlike(in_row(one, other).clock[0], in_row(other, one).clock[0])


def made_of(wanted, name):
    """Some module without calls that has this name and this face."""
    lines = []
    for outlet, rows, clock in zip(wanted.outlets, wanted.rows, wanted.clock):
        for inlet, row in [*list(zip(wanted.inlets, rows)), (None, clock)]:
            lines.extend([(inlet, outlet, pair, begins) for pair, begins in lines_of(row).items()])
    # The first station waits for nothing: it goes at 0 again and again.
    names = free_names([*wanted.inlets, *wanted.outlets], len(lines) + 1)
    stations = [names[0]]
    links = []
    for station, (inlet, outlet, pair, begins) in zip(names[1:], lines):
        begin = names[0] if inlet is None else inlet
        if pair == ONCE:
            links.extend([(begin, outlet, n, time) for n, time in begins])
        elif len(begins) > 0:
            stations.append(station)
            links.extend(_ring_links(begin, station, outlet, pair, begins))
    return Module(name, wanted.inlets, wanted.outlets, stations, links)


def _ring_links(begin, station, outlet, pair, begins):
    """Links by which an outlet has lines of a pair of a turn and its growth, by a ring at a station.

    At the station the first line begins with the going 0, at 0: so it is nowhere later by itself than this line.
    """
    turn, more = pair
    start, least = min(begins)
    links = [(begin, station, n - start, time - least) for n, time in begins]
    return [*links, (station, station, turn, more), (station, outlet, start, least)]
