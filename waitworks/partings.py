"""Partings: arrivals by which two faces go otherwise."""

from waitworks.checks import wrong_arrival
from waitworks.faces import going_out
from waitworks.kinds import is_number, is_one_of, is_tuple_of
from waitworks.partners import greatest_difference
from waitworks.rows import Row, first_above, is_at_most, is_empty, unit


def parting(one, other):
    """Some arrivals, an outlet and a number, so that this going is another one by the other face; or None."""
    early = [unit()] * len(one.inlets)
    for at, outlet in enumerate(one.outlets):
        n = first_unlike(one.clock[at], other.clock[at])
        if n is not None:
            return (tuple(early), outlet, n)
        for inlet in range(len(one.inlets)):
            rows = (one.rows[at][inlet], other.rows[at][inlet])
            n = first_unlike(rows[0], rows[1])
            if n is not None:
                late = so_late(one.clock[at].time(n), rows[0].time(n), rows[1].time(n))
                return (tuple([*early[:inlet], Row((), (late,), 0), *early[inlet + 1:]]), outlet, n)
    return None


def first_unlike(one, other):
    """The least place at which two rows have unlike things; None if there is none."""
    found = [first_above(one, other), first_above(other, one)]
    return min([n for n in found if n is not None], default=None)


def so_late(clock, one, other):
    """How late arrivals come that alone tell a going: later by the greater one of two times, behind the clock."""
    return max(0, clock + 1 - max([time for time in (one, other) if time is not None]))


def parting_holds(one, other, value):
    """Whether any value is a triple by which a going is another one by the other face."""
    if not is_tuple_of(value, 3):
        return False
    arrivals, outlet, n = value
    if not isinstance(arrivals, tuple) or wrong_arrival(arrivals, one.inlets) is not None:
        return False
    if not is_one_of(outlet, one.outlets) or not is_number(n):
        return False
    at = one.outlets.index(outlet)
    return going_out(one, arrivals, at, n) != going_out(other, arrivals, at, n)


def never_later(one, other):
    """Whether no going of an outlet is ever later by the one face than by the other one."""
    return all([is_at_most(row, limit) for row, limit in _pairs_of_rows(one, other)])


def _pairs_of_rows(one, other):
    """The rows and clocks of both faces, side by side."""
    pairs = list(zip(one.clock, other.clock))
    for rows, limits in zip(one.rows, other.rows):
        pairs.extend(list(zip(rows, limits)))
    return pairs


def late_by(one, other):
    """For each outlet by how much a going can be later by the one face; None if there is no bound."""
    found = []
    for at in range(len(one.outlets)):
        pairs = [(one.clock[at], other.clock[at]), *list(zip(one.rows[at], other.rows[at]))]
        gaps = [greatest_difference(row, limit) for row, limit in pairs if not is_empty(row)]
        found.append(None if None in gaps else max(gaps))
    return tuple(found)
