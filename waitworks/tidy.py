"""Needless links of a module without calls, and places that go in step."""

from waitworks.checks import wrong_arrival
from waitworks.courses import all_courses, course
from waitworks.errors import Refused
from waitworks.houses import House, Module
from waitworks.kinds import is_number, is_one_of, is_tuple_of
from waitworks.partings import first_unlike, so_late
from waitworks.rows import Row, all_later, is_empty, later, unit
from waitworks.sums import greatest


def needless(module):
    """The numbers of all links without which, each alone, all goes the same."""
    courses = courses_of(module)
    return tuple([at for at in range(len(module.links)) if is_needless(module, at, courses)])


def courses_of(module):
    """The rows of all places by which a module goes: behind each inlet, and, as the last ones, for the clock."""
    house = House([module])
    return all_courses(house, module.name, house.flat(module.name)[0])


def is_needless(module, at, courses):
    """Whether all goes the same without a link; these are the rows by which it goes with it."""
    first, then, _, _ = module.links[at]
    others = [link for number, link in enumerate(module.links) if link[1] == then and number != at]
    for rows in courses[:-1]:
        if not is_empty(rows[first]) and not _is_reached(rows, then, others, []):
            return False
    return _is_reached(courses[-1], then, others, [unit()])


def _is_reached(rows, place, links, coming):
    """Whether each time of a place comes by these links and rows.

    Then all goes so without any other link to it, too: going by going, nothing else can be told.
    """
    led = [later(rows[first], marks, lasts) for first, _, marks, lasts in links]
    return len(led) + len(coming) > 0 and greatest([*led, *coming]) == rows[place]


def groups(module):
    """All lots of places that are in step, with how much later each goes than the earliest one of its lot."""
    return lots_of(courses_of(module))


def lots_of(courses):
    """All lots of places that are in step by these rows: pairs of a place and its offset."""
    starts = {place: row.time(0) for place, row in courses[-1].items()}
    lots = []
    for place in sorted(list(starts)):
        shape = [_moved(rows[place], -starts[place]) for rows in courses]
        mine = [lot for known, lot in lots if known == shape]
        if len(mine) > 0:
            mine[0].append(place)
        else:
            lots.append((shape, [place]))
    found = []
    for _, lot in lots:
        least = min([starts[place] for place in lot])
        found.append(tuple([(place, starts[place] - least) for place in lot]))
    return tuple(found)


def _moved(row, lasts):
    """What a row has in its least form, all so much later."""
    return (all_later(row.first, lasts), all_later(row.again, lasts), row.more)


def link_parting(module, at):
    """Some arrivals, a place and a number, so that this going is another one without a link; None if it is needless."""
    courses, others = _with_and_without(module, at)
    early = [unit()] * len(module.inlets)
    for place in sorted(list(courses[-1])):
        n = first_unlike(courses[-1][place], others[-1][place])
        if n is not None:
            return (tuple(early), place, n)
    for inlet in range(len(module.inlets)):
        for place in sorted(list(courses[-1])):
            row, other = courses[inlet][place], others[inlet][place]
            n = first_unlike(row, other)
            if n is not None:
                late = so_late(courses[-1][place].time(n), row.time(n), other.time(n))
                return (tuple([*early[:inlet], Row((), (late,), 0), *early[inlet + 1:]]), place, n)
    return None


def _with_and_without(module, at):
    """The rows by which a module goes, and those without a link; refuse the number of no link."""
    courses = courses_of(module)
    return courses, courses_of(_without(module, at))


def _without(module, at):
    """The module without a link; refuse the number of no link."""
    if not is_number(at) or at >= len(module.links):
        raise Refused(at)
    links = [*module.links[:at], *module.links[at + 1:]]
    return Module(module.name, module.inlets, module.outlets, module.stations, links)


def link_parting_holds(module, at, value):
    """Whether any value is a triple by which a going is another one without a link."""
    house = House([module])
    bare = House([_without(module, at)])
    if not is_tuple_of(value, 3):
        return False
    arrivals, place, n = value
    if not isinstance(arrivals, tuple) or wrong_arrival(arrivals, module.inlets) is not None:
        return False
    if not is_one_of(place, house.flat(module.name)[0]) or not is_number(n):
        return False
    time = course(house, module.name, arrivals)[place].time(n)
    return time != course(bare, module.name, arrivals)[place].time(n)
