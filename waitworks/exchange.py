"""What can be exchanged: calls, and the order of two modules; and a text for each face."""

from itertools import combinations

from waitworks.errors import NeverGoes
from waitworks.faces import face, face_with, in_row
from waitworks.houses import Module
from waitworks.kinds import free_names
from waitworks.partings import first_unlike
from waitworks.rows import is_empty


def swaps(house, name):
    """The pairs of labels, the lesser one ahead, of calls that can be exchanged while the face stays."""
    module = house[name]
    labels = sorted([label for label, _ in module.calls])
    found = [(one, other) for one, other in combinations(labels, 2) if _can_swap(house, module, one, other)]
    return tuple(found)


def _can_swap(house, module, one, other):
    """Whether the face stays if each of two calls calls the other one's module."""
    calls = dict(module.calls)
    called, instead = house[calls[one]], house[calls[other]]
    if called.inlets != instead.inlets or called.outlets != instead.outlets:
        return False
    faces = [face(house, called.name), face(house, instead.name)]
    if faces[0] == faces[1]:
        return True
    try:
        swapped = face_with(house, module.name, [(one, faces[1]), (other, faces[0])])
    except NeverGoes:
        return False
    return swapped == face(house, module.name)


def can_change(one, other):
    """Whether for all arrivals the goings behind both are the same in either order."""
    return first_change(one, other) is None


def first_change(one, other):
    """The least going that is another one in the other order, with all arrivals at 0; None if there is none."""
    return first_unlike(in_row(one, other).clock[0], in_row(other, one).clock[0])


def made_of(wanted, name):
    """Some module without calls that has this name and this face."""
    rows = []
    for outlet, answers, clock in zip(wanted.outlets, wanted.rows, wanted.clock):
        rows.extend([(inlet, outlet, row) for inlet, row in zip(wanted.inlets, answers) if not is_empty(row)])
        rows.append((None, outlet, clock))
    # The first station waits for nothing: it goes at 0 again and again.
    names = free_names([*wanted.inlets, *wanted.outlets], len(rows) + 1)
    stations = [names[0]]
    links = []
    for station, (first, outlet, row) in zip(names[1:], rows):
        begin = names[0] if first is None else first
        links.extend(_first_links(begin, outlet, row))
        if row.more > 0:
            stations.append(station)
            links.extend(_ring_links(begin, station, outlet, row))
    return Module(name, wanted.inlets, wanted.outlets, stations, links)


def _first_links(begin, outlet, row):
    """Links by which an outlet has what stands first in a row, and what stands there for ever."""
    things = list(row.first)
    if row.more == 0:
        things.append(row.again[0])
    found = []
    last = None
    for n, time in enumerate(things):
        if time is not None and time != last:
            found.append((begin, outlet, n, time))
        last = time
    return found


def _ring_links(begin, station, outlet, row):
    """Links by which an outlet has what comes again in a row, by a ring at a station.

    The station has it from its going 0 on, from the time 0 on: so it is nowhere later by itself than the row.
    """
    start = row.again[0]
    links = [(begin, station, n, time - start) for n, time in enumerate(row.again)]
    return [*links, (station, station, len(row.again), row.more), (station, outlet, len(row.first), start)]
