"""Faces: what modules are from outside."""

from waitworks.checks import check_arrivals
from waitworks.courses import all_courses
from waitworks.errors import NeverGoes
from waitworks.nets import net_of, net_solved
from waitworks.paths import ring_without_marks
from waitworks.rows import unit
from waitworks.sums import sum_at


class Face:
    """For each outlet its clock, and how it goes behind each inlet; made by functions of this package."""

    def __init__(self, inlets, outlets, rows, clock):
        self.inlets = tuple(inlets)
        self.outlets = tuple(outlets)
        self.rows = tuple([tuple(some) for some in rows])
        self.clock = tuple(clock)

    def __eq__(self, other):
        if not isinstance(other, Face):
            return False
        if self.inlets != other.inlets or self.outlets != other.outlets:
            return False
        return self.rows == other.rows and self.clock == other.clock


def face(house, name):
    """The face of a module."""
    module = house[name]
    courses = all_courses(house, name, module.outlets)
    return _told(module.inlets, module.outlets, courses[:-1], courses[-1])


def _told(inlets, outlets, answers, rest):
    """The face with these rows at outlets: those that answer each inlet, and those of the clock."""
    rows = [[answer[outlet] for answer in answers] for outlet in outlets]
    return Face(inlets, outlets, rows, [rest[outlet] for outlet in outlets])


def out(face, arrivals):
    """The goings of all outlets: a row for each."""
    check_arrivals(arrivals, face.inlets)
    rows = _led_through(face, _net_through(face), arrivals, face.clock)
    return tuple([rows[outlet] for outlet in face.outlets])


def _net_through(one):
    """The net from the inlets of a face to its outlets."""
    doors = _doors(one)
    ways = []
    for outlet, parts in zip(one.outlets, one.rows):
        ways.extend([(door, outlet, part) for door, part in zip(doors, parts)])
    return net_of([*doors, *one.outlets], [], ways)


def _doors(one):
    """Names for the inlets of a face that no outlet has."""
    return [f"in {at}" for at in range(len(one.inlets))]


def _led_through(one, net, rows, clock):
    """What outlets have, through this net, of rows at the inlets, and of a clock (if there are any of both): a dict."""
    coming = [*list(zip(_doors(one), rows)), *list(zip(one.outlets, clock))]
    return net_solved(net, coming, one.outlets)


def going_out(one, arrivals, at, n):
    """The n-th going of the outlet with this number."""
    sums = [sum_at(row, came, n) for row, came in zip(one.rows[at], arrivals)]
    return max([one.clock[at].time(n), *[time for time in sums if time is not None]])


def in_row(one, other):
    """The face of both, with the outlets of the one as inlets of the other."""
    net = _net_through(other)
    answers = []
    for at in range(len(one.inlets)):
        answers.append(_led_through(other, net, [rows[at] for rows in one.rows], ()))
    rest = _led_through(other, net, one.clock, other.clock)
    return _told(one.inlets, other.outlets, answers, rest)


def face_with(house, name, faces):
    """The face of a module whose calls have other faces: pairs of a label and a face; the other calls stay."""
    module = house[name]
    called = _faces_of_calls(house, module, faces)
    ways = []
    clocks = []
    for label, part in called:
        ends = [f"{label}.{inlet}" for inlet in part.inlets]
        for outlet, rows, clock in zip(part.outlets, part.rows, part.clock):
            ways.extend([(end, f"{label}.{outlet}", row) for end, row in zip(ends, rows)])
            clocks.append((f"{label}.{outlet}", clock))
    places = sorted([*module.inlets, *module.outlets, *module.stations, *_ends_of_calls(called)])
    at_once = [(first, then, 0, 0) for first, then, row in ways if row.time(0) is not None]
    ring = ring_without_marks(places, [*module.links, *at_once])
    if len(ring) > 0:
        raise NeverGoes(ring)
    net = net_of(places, module.links, ways)
    answers = [net_solved(net, [(inlet, unit())], module.outlets) for inlet in module.inlets]
    # What waits for a going with the same number is not ahead of 0 by this alone.
    later_ones = {then: True for _, then, marks, _ in module.links if marks == 0}
    later_ones.update({place: True for place, _ in clocks})
    coming = [*[(place, unit()) for place in places if place not in later_ones], *clocks]
    return _told(module.inlets, module.outlets, answers, net_solved(net, coming, module.outlets))


def _faces_of_calls(house, module, faces):
    """The pairs of a label and the face of what is called there, for all calls."""
    told = dict(list(faces))
    known = {}
    called = []
    for label, name in module.calls:
        if label not in told and name not in known:
            known[name] = face(house, name)
        called.append((label, told[label] if label in told else known[name]))
    return called


def _ends_of_calls(called):
    """The inlets and outlets of all calls."""
    return [f"{label}.{end}" for label, part in called for end in [*part.inlets, *part.outlets]]
