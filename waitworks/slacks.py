"""Spare and slack: how late goings can be, and how much longer links can last, while other goings stay."""

from waitworks.checks import check_place
from waitworks.courses import course, sums_from
from waitworks.partners import greatest_difference
from waitworks.rows import from_going, gaps_between, is_empty, later


def near_spare(house, name, arrivals, place, n, other):
    """How late a going can be, so that none of the other place is later than in the run; None if there is no bound."""
    reached, wished = _reached_and_wished(house, name, arrivals, place, n, other)
    if is_empty(reached):
        return None
    return -greatest_difference(reached, wished)


def far_spare(house, name, arrivals, place, n, other):
    """How late a going can be, so that in the end the other place goes as in the run; None if there is no bound."""
    reached, wished = _reached_and_wished(house, name, arrivals, place, n, other)
    if is_empty(reached):
        return None
    _, _, grow, gaps = gaps_between(reached, wished)
    return None if grow < 0 else -max(gaps)


def _reached_and_wished(house, name, arrivals, place, n, other):
    """What a going makes of the other place's goings from its number on, and when these are in the run."""
    rows = course(house, name, arrivals)
    check_place(place, list(rows))
    check_place(other, list(rows))
    sums = sums_from(house, name, place)[other]
    return later(sums, 0, rows[place].time(n)), from_going(rows[other], n)


def slack(house, name, arrivals, at):
    """How much longer a link alone can last while all rows of the run stay."""
    rows = course(house, name, arrivals)
    _, links = house.flat(name)
    return _slack_of(links[at], rows)


def tight(house, name, arrivals):
    """The numbers of the links without slack."""
    rows = course(house, name, arrivals)
    _, links = house.flat(name)
    return tuple([at for at, link in enumerate(links) if _slack_of(link, rows) == 0])


def _slack_of(link, rows):
    """By how much all goings at the end of a link are later than by this link."""
    first, then, marks, lasts = link
    return -greatest_difference(later(rows[first], marks, lasts), rows[then])
