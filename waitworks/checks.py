"""What arguments are refused: arrivals, places, logs."""

from waitworks.errors import InvalidArrivals, InvalidLog, NoPlace
from waitworks.kinds import is_number, is_one_of, is_sequence, is_tuple_of
from waitworks.rows import Row


def check_arrivals(arrivals, inlets):
    """Refuse what are no arrivals for these inlets."""
    at = wrong_arrival(arrivals, inlets)
    if at is not None:
        raise InvalidArrivals(at)


def wrong_arrival(arrivals, inlets):
    """The index of the first thing that is wrong in arrivals for these inlets, 0 for none at all, else None."""
    if not is_sequence(arrivals) or len(arrivals) != len(inlets):
        return 0
    for at, row in enumerate(arrivals):
        if not isinstance(row, Row) or row.time(0) is None or row.time(0) < 0:
            return at
    return None


def check_place(place, places):
    """Refuse what is none of these places."""
    if not is_one_of(place, places):
        raise NoPlace(place)


def check_pairs(pairs, places):
    """Refuse the first of these pairs of a place and a number with a place that there is not."""
    for place, _ in pairs:
        check_place(place, places)


def logged_times(log, places):
    """The times that a log tells for these places: a dict; refuse what is no log of them."""
    if not is_sequence(log):
        raise InvalidLog(0)
    many = None
    for at, pair in enumerate(log):
        if at >= len(places) or not is_tuple_of(pair, 2) or not is_one_of(pair[0], places[at:at + 1]):
            raise InvalidLog(at)
        if not _are_logged(pair[1]) or (many is not None and len(pair[1]) != many):
            raise InvalidLog(at)
        many = len(pair[1])
    if len(log) < len(places):
        raise InvalidLog(len(log))
    return {place: tuple(times) for place, times in log}


def _are_logged(times):
    """Whether this is a sequence of at least one number, and they never fall."""
    if not is_sequence(times) or len(times) == 0 or not all([is_number(time) for time in times]):
        return False
    return all([time <= behind for time, behind in zip(times, times[1:])])
