"""Latest arrivals: how late things can come so that wishes are kept."""

from waitworks.checks import check_arrivals
from waitworks.errors import InvalidArrivals, InvalidWishes, NoPlace
from waitworks.faces import out
from waitworks.kinds import is_integer, is_number, is_one_of, is_sequence, is_tuple_of
from waitworks.partners import greatest_difference, partner
from waitworks.rows import Row, first_above, from_going, is_at_most, is_empty, later
from waitworks.sums import least


def check_wishes(wishes, outlets):
    """Refuse what are no wishes for these outlets."""
    if not is_sequence(wishes) or len(wishes) != len(outlets):
        raise InvalidWishes(0)
    for at, row in enumerate(wishes):
        if not isinstance(row, Row):
            raise InvalidWishes(at)


def can_keep(face, wishes):
    """Whether some arrivals keep these wishes."""
    check_wishes(wishes, face.outlets)
    return _first_hopeless(face, wishes) is None


def _first_hopeless(face, wishes):
    """The number of the first outlet whose clock is above its wish, or None."""
    for at, clock in enumerate(face.clock):
        if not is_at_most(clock, wishes[at]):
            return at
    return None


def in_time(face, wishes, arrivals):
    """Whether these arrivals keep these wishes."""
    return first_late(face, wishes, arrivals) is None


def first_late(face, wishes, arrivals):
    """The least going that is above its wish, and the first such outlet; None if there is none."""
    check_wishes(wishes, face.outlets)
    check_arrivals(arrivals, face.inlets)
    found = [(first_above(row, wish), at) for at, (row, wish) in enumerate(zip(out(face, arrivals), wishes))]
    first = min([(n, at) for n, at in found if n is not None], default=None)
    return None if first is None else (first[0], face.outlets[first[1]])


def latest(face, wishes):
    """The greatest arrivals that keep these wishes, None for an inlet without a bound; None if no arrivals do."""
    check_wishes(wishes, face.outlets)
    if _first_hopeless(face, wishes) is not None:
        return None
    return tuple([_latest_at(face, wishes, at) for at in range(len(face.inlets))])


def _latest_at(face, wishes, at):
    """The greatest arrivals of one inlet that keep these wishes, None without a bound."""
    bounds = [partner(wish, rows[at]) for wish, rows in zip(wishes, face.rows)]
    known = [bound for bound in bounds if bound is not None]
    return least(known) if len(known) > 0 else None


def least_delay(face, wishes):
    """How much later all wishes are to be, so that some arrivals keep them; None if no number is enough."""
    check_wishes(wishes, face.outlets)
    gaps = [greatest_difference(clock, wish) for clock, wish in zip(face.clock, wishes)]
    return None if None in gaps else max([0, *gaps])


def spare_arrival(face, wishes, arrivals, name, n):
    """How much later an arrival can come, the later ones not ahead of it, all else as it is; None without a bound."""
    limits = latest(face, wishes)
    check_arrivals(arrivals, face.inlets)
    if limits is None:
        raise InvalidArrivals(0)
    for at, (row, limit) in enumerate(zip(arrivals, limits)):
        if limit is not None and not is_at_most(row, limit):
            raise InvalidArrivals(at)
    at = _number_of_inlet(face, name)
    return None if limits[at] is None else limits[at].time(n) - arrivals[at].time(n)


def _number_of_inlet(face, name):
    """The number of the inlet with a name."""
    if not is_one_of(name, face.inlets):
        raise NoPlace(name)
    return face.inlets.index(name)


def late_reason(face, wishes, name, n):
    """Some outlet and going above its wish if an arrival comes one later than it can; None without a bound."""
    at = _inlet_of_kept(face, wishes, name)
    limit = latest_time(face, wishes, at, n)
    for outlet, rows, wish in zip(face.outlets, face.rows, wishes):
        if not is_empty(rows[at]):
            over = first_above(later(rows[at], 0, limit + 1), from_going(wish, n))
            if over is not None:
                return (outlet, n + over)
    return None


def late_reason_holds(face, wishes, name, n, value):
    """Whether any value is an outlet and a going above its wish if an arrival comes one later than it can."""
    at = _inlet_of_kept(face, wishes, name)
    if not is_tuple_of(value, 2) or not is_one_of(value[0], face.outlets) or not is_number(value[1]) or value[1] < n:
        return False
    outlet = face.outlets.index(value[0])
    time = face.rows[outlet][at].time(value[1] - n)
    if time is None:
        return False
    return latest_time(face, wishes, at, n) + 1 + time > wishes[outlet].time(value[1])


def _inlet_of_kept(face, wishes, name):
    """The number of the inlet with a name, if some arrivals keep the wishes."""
    check_wishes(wishes, face.outlets)
    at = _first_hopeless(face, wishes)
    if at is not None:
        raise InvalidWishes(at)
    return _number_of_inlet(face, name)


def latest_time(face, wishes, at, n):
    """The latest time of the n-th arrival of one inlet, None without a bound."""
    bounds = []
    for rows, wish in zip(face.rows, wishes):
        if not is_empty(rows[at]):
            bounds.append(-greatest_difference(rows[at], from_going(wish, n)))
    return min(bounds, default=None)


def latest_goings(face, wishes):
    """For each inlet the latest times of the first goings (None without a bound) by wishes for as many; or None."""
    _check_first_wishes(face, wishes)
    for times, clock in zip(wishes, face.clock):
        if any([clock.time(n) > time for n, time in enumerate(times)]):
            return None
    many = len(wishes[0]) if len(wishes) > 0 else 0
    found = []
    for at in range(len(face.inlets)):
        pairs = [(times, rows[at]) for times, rows in zip(wishes, face.rows)]
        found.append(tuple([_latest_going(pairs, n, many) for n in range(many)]))
    return tuple(found)


def _check_first_wishes(face, wishes):
    """Refuse what are no wishes for the first goings of the outlets of a face, as many for each."""
    if not is_sequence(wishes) or len(wishes) != len(face.outlets):
        raise InvalidWishes(0)
    for at, times in enumerate(wishes):
        if not is_sequence(times) or len(times) == 0 or not all([is_integer(time) for time in times]):
            raise InvalidWishes(at)
        if len(times) != len(wishes[0]):
            raise InvalidWishes(at)


def _latest_going(pairs, n, many):
    """The latest time of the n-th arrival, by pairs of so many wishes and the row behind which they are reached."""
    bounds = []
    for times, row in pairs:
        sums = [(times[n + k], row.time(k)) for k in range(many - n)]
        bounds.extend([wish - time for wish, time in sums if time is not None])
    return min(bounds, default=None)
