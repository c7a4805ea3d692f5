"""Runs: when each place goes."""

from waitworks.checks import check_place
from waitworks.courses import course


def run(house, name, arrivals):
    """The pairs of a place and the row of its goings, ascending."""
    rows = course(house, name, arrivals)
    return tuple([(place, rows[place]) for place in sorted(list(rows))])


def going(house, name, arrivals, place, n):
    """The time of the n-th going of a place."""
    rows = course(house, name, arrivals)
    check_place(place, list(rows))
    return rows[place].time(n)
