"""Rooms: ways back of so many marks, and how much room changes nothing."""

from waitworks.checks import check_place
from waitworks.courses import all_courses
from waitworks.errors import NoPlace
from waitworks.houses import Module
from waitworks.kinds import is_one_of
from waitworks.partners import partner
from waitworks.rows import Row
from waitworks.sums import least
from waitworks.ways import way_back


def room(marks, lasts=0):
    """The row by which so many at most are under way, and a place is free again so much later."""
    return Row([None] * marks, (lasts,), 0)


def least_room(face, outlet, inlet, lasts=0):
    """The least marks of a room with which all outlets go as without it; None if there are none."""
    most = way_back(face, outlet, inlet)
    return 1 if most is None else _first_as_late(most, lasts)


def _first_as_late(row, lasts):
    """The least number, from 1 on, at which a row is at least this; None if there is none."""
    below = row.count(lasts - 1)
    return None if below is None else max(1, below)


def roomed(house, name, label, outlet, inlet, marks, lasts=0):
    """The house in which a module has one link more, from an outlet to an inlet of what it calls."""
    module = house[name]
    called = dict(module.calls)
    if not is_one_of(label, list(called)):
        raise NoPlace(label)
    inner = house[called[label]]
    if not is_one_of(outlet, inner.outlets):
        raise NoPlace(outlet)
    if not is_one_of(inlet, inner.inlets):
        raise NoPlace(inlet)
    links = [*module.links, (f"{label}.{outlet}", f"{label}.{inlet}", marks, lasts)]
    return house.with_module(
        Module(module.name, module.inlets, module.outlets, module.stations, links, module.calls)
    )


def sure_row(house, name, first, then):
    """The greatest row that always stands between the goings of a place and later ones of another place."""
    places, _ = house.flat(name)
    check_place(first, places)
    check_place(then, places)
    bounds = [partner(rows[then], rows[first]) for rows in all_courses(house, name, [first, then])]
    return least([bound for bound in bounds if bound is not None])


def least_inner_room(house, name, first, then, lasts=0):
    """The least marks, from 1 on, of a link that lasts so long and changes no going; None if there are none."""
    return _first_as_late(sure_row(house, name, first, then), lasts)
