"""Late goings: what they make late, and when it is made good."""

from waitworks.checks import check_place
from waitworks.courses import late_course
from waitworks.partners import greatest_difference
from waitworks.rows import last_above


def late_run(house, name, arrivals, lates):
    """The pairs of a place and the row of its goings with these late ones, ascending."""
    _, late = late_course(house, name, arrivals, lates)
    return tuple([(place, late[place]) for place in sorted(list(late))])


def touched(house, name, arrivals, lates):
    """The places that go otherwise with these late goings, ascending."""
    rows, late = late_course(house, name, arrivals, lates)
    return tuple([place for place in sorted(list(rows)) if late[place] != rows[place]])


def made_good(house, name, arrivals, lates, place):
    """The least number from which on all goings of a place are as in the run, or None."""
    rows, late = late_course(house, name, arrivals, lates)
    check_place(place, list(rows))
    return last_above(late[place], rows[place])


def how_late(house, name, arrivals, lates, place):
    """The greatest number by which a going of a place is later than in the run."""
    rows, late = late_course(house, name, arrivals, lates)
    check_place(place, list(rows))
    return greatest_difference(late[place], rows[place])
