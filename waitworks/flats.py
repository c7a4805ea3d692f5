"""Modules seen flat, written out without calls, and with some stations cut out."""

from waitworks.errors import NoPlace, Refused
from waitworks.houses import Module
from waitworks.kinds import free_names, is_one_of, is_sequence


def flat(house, name):
    """The pair of the ascending tuples of all places and of all links."""
    return house.flat(name)


def written(house, name, place):
    """The pair of a module and a name: where a place is written."""
    places, _ = flat(house, name)
    if not is_one_of(place, places):
        raise NoPlace(place)
    module = house[name]
    *labels, here = place.split(".")
    for label in labels:
        module = house[dict(module.calls)[label]]
    return (module.name, here)


def asked(house, name):
    """The names of all modules that a module calls, at once or through others, ascending."""
    found = {}
    waiting = [house[name]]
    while len(waiting) > 0:
        module = waiting.pop()
        for _, called in module.calls:
            if called not in found:
                found[called] = True
                waiting.append(house[called])
    return tuple(sorted(list(found)))


def levels(house, name):
    """The pairs of a place and the greatest number of links without marks that lead to it, by this number."""
    found = sorted([(level, place) for place, level in house.levels(name).items()])
    return tuple([(place, level) for level, place in found])


def written_out(house, name, new):
    """The pair of a module without calls that does the same, and the names that flat places have there."""
    module = house[name]
    places, links = flat(house, name)
    doors = [*module.inlets, *module.outlets]
    inner = [place for place in places if place not in doors]
    names = {place: place for place in doors}
    names.update(dict(zip(inner, free_names(doors, len(inner)))))
    renamed = sorted([(names[first], names[then], marks, lasts) for first, then, marks, lasts in links])
    stations = [names[place] for place in inner]
    whole = Module(new, module.inlets, module.outlets, stations, renamed)
    return (whole, tuple([(place, names[place]) for place in places]))


def cut_out(module, stations, name, label):
    """The pair of a module of some stations, and of the one that calls it instead of having them."""
    _check_stations(module, stations)
    coming = [link for link in module.links if link[1] in stations and link[0] not in stations]
    left = [link[0] for link in module.links if link[0] in stations and link[1] not in stations]
    leaving = [station for station in stations if station in left]
    taken = [*module.inlets, *module.outlets, *module.stations, *[call[0] for call in module.calls]]
    names = free_names(taken, len(coming) + len(leaving))
    inlets = names[:len(coming)]
    doors = dict(zip(leaving, names[len(coming):]))
    inner = [(inlet, link[1], 0, 0) for inlet, link in zip(inlets, coming)]
    inner.extend([link for link in module.links if link[0] in stations and link[1] in stations])
    inner.extend([(station, doors[station], 0, 0) for station in leaving])
    outer = _links_around(module.links, stations, inlets, doors, label)
    others = [station for station in module.stations if station not in stations]
    calls = [*module.calls, (label, name)]
    return (
        Module(name, inlets, names[len(coming):], stations, inner),
        Module(module.name, module.inlets, module.outlets, others, outer, calls),
    )


def _check_stations(module, stations):
    """Refuse what is no sequence of unlike stations of a module."""
    if not is_sequence(stations):
        raise Refused(0)
    for at, station in enumerate(stations):
        if not is_one_of(station, module.stations) or station in stations[:at]:
            raise Refused(at)


def _links_around(links, stations, inlets, doors, label):
    """The links that are not between these stations, led to inlets and from doors of what is called."""
    found = []
    used = 0
    for first, then, marks, lasts in links:
        if first in stations and then in stations:
            continue
        if first in stations:
            found.append((f"{label}.{doors[first]}", then, marks, lasts))
        elif then in stations:
            found.append((first, f"{label}.{inlets[used]}", marks, lasts))
            used += 1
        else:
            found.append((first, then, marks, lasts))
    return found
