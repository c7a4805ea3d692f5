"""Ways back: from outlets to inlets, so that arrivals wait for what has left."""

from waitworks.errors import InvalidRow, NoPlace
from waitworks.faces import Face
from waitworks.kinds import is_one_of
from waitworks.nets import net_of, net_solved
from waitworks.partners import partner
from waitworks.rows import Row, is_at_most
from waitworks.sums import least

# Where what comes back starts: no outlet is called so.
START = "a start"


def check_ends(face, outlet, inlet):
    """Refuse what is no outlet, and then what is no inlet."""
    if not is_one_of(outlet, face.outlets):
        raise NoPlace(outlet)
    if not is_one_of(inlet, face.inlets):
        raise NoPlace(inlet)


def way_back(face, outlet, inlet):
    """The greatest row by which all outlets go as without a way back; None if each does."""
    check_ends(face, outlet, inlet)
    start = face.outlets.index(outlet)
    end = face.inlets.index(inlet)
    bounds = []
    for rows, clock in zip(face.rows, face.clock):
        # What comes back reaches each outlet by this row: it must be nowhere later than what is there.
        pairs = [(clock, face.clock[start]), *list(zip(rows, face.rows[start]))]
        for wish, row in pairs:
            bound = partner(wish, row)
            if bound is not None:
                bounds.append(partner(bound, rows[end]))
    known = [bound for bound in bounds if bound is not None]
    return least(known) if len(known) > 0 else None


def keeps_face(face, outlet, inlet, row):
    """Whether all outlets go as without a way back by this row."""
    check_ends(face, outlet, inlet)
    if not isinstance(row, Row):
        raise InvalidRow("row")
    most = way_back(face, outlet, inlet)
    return most is None or is_at_most(row, most)


def closed(face, outlet, inlet, row):
    """The face with a way back by this row."""
    check_ends(face, outlet, inlet)
    if not isinstance(row, Row) or row.time(0) is not None:
        raise InvalidRow("row")
    end = face.inlets.index(inlet)
    ways = [(outlet, START, row)]
    ways.extend([(START, place, rows[end]) for place, rows in zip(face.outlets, face.rows)])
    columns = [[rows[at] for rows in face.rows] for at in range(len(face.inlets))]
    net = net_of([*face.outlets, START], [], ways)
    answers = [net_solved(net, list(zip(face.outlets, column)), face.outlets) for column in columns]
    clock = net_solved(net, list(zip(face.outlets, face.clock)), face.outlets)
    rows = [[answer[place] for answer in answers] for place in face.outlets]
    return Face(face.inlets, face.outlets, rows, [clock[place] for place in face.outlets])
