"""One checker for papers of all kinds: it walks goings, adds and compares, and asks nothing of what makes papers."""

from waitworks.checks import check_arrivals, check_pairs, check_place, logged_times
from waitworks.errors import NoPlace
from waitworks.flattening import flattened
from waitworks.kinds import is_one_of, is_tuple_of
from waitworks.papers import (
    are_cuts, cost_of, is_blame, is_clash, is_flow, is_late_paper, is_margin_paper, is_rate_paper, is_slow_ring,
    is_table, over, shortened, spares_by, worth_of,
)
from waitworks.paths import feeding
from waitworks.walking import is_chain, is_run_paper, time_walked


def holds(house, name, kind, question, value):
    """Whether any value is a paper of a kind for a module."""
    module = house[name]
    places, links = house.flat(name)
    if not is_one_of(kind, list(KINDS)):
        return False
    check = KINDS[kind]
    return check(module, places, links, question, value)


def _chain(module, places, links, question, value):
    """Whether this is a chain for a going."""
    arrivals, place, n = question
    check_arrivals(arrivals, module.inlets)
    check_place(place, places)
    given = dict(list(zip(module.inlets, arrivals)))
    return is_chain(value, place, n, links, given) and time_walked(place, n, links, given) == value[0][2]


def _run(module, places, links, question, value):
    """Whether this is a right paper for a run."""
    arrivals = question[0]
    check_arrivals(arrivals, module.inlets)
    return is_run_paper(value, places, links, dict(list(zip(module.inlets, arrivals))))


def _rate(_, places, links, question, value):
    """Whether this is a right paper for the rate of a place."""
    place = question[0]
    check_place(place, places)
    feeders = feeding(links, place)
    return is_rate_paper(value, sorted(list(feeders)), [link for link in links if link[1] in feeders])


def _table(_, places, links, question, value):
    """Whether this is a kept timetable."""
    beat = question[0]
    return is_table(value, places, links, over(links, beat))


def _margin(_, places, links, question, value):
    """Whether this is a margin paper."""
    beat = question[0]
    return is_margin_paper(value, places, links, beat)


def _clash(_, places, links, question, value):
    """Whether this is a paper that no kept timetable keeps wants and wishes."""
    beat, wants, wishes = question
    check_pairs(wants, places)
    check_pairs(wishes, places)
    return is_clash(value, places, links, beat, wants, wishes)


def _late(_, places, links, question, value):
    """Whether this is a late paper."""
    beat, table, place, d = question
    check_place(place, places)
    return is_late_paper(value, places, links, spares_by(links, beat, table), place, d)


def _blame(module, places, links, question, value):
    """Whether this is a blame."""
    log = question[0]
    return is_blame(value, module.inlets, links, logged_times(log, places))


def _slow(_, places, links, question, value):
    """Whether this is a ring that lasts more than the beat times its marks."""
    beat = question[0]
    return is_slow_ring(value, links, beat)


def _cheap(_, places, links, question, value):
    """Whether these are cuts, a table that is kept with them, and a flow that is worth what they cost."""
    beat, prices = question
    if not is_tuple_of(value, 3):
        return False
    cuts, table, flow = value
    if not are_cuts(cuts, links, prices) or not is_table(table, places, links, over(shortened(links, cuts), beat)):
        return False
    return is_flow(flow, links) and worth_of(flow, links, beat, prices) == cost_of(cuts, prices)


KINDS = {
    "chain": _chain, "run": _run, "rate": _rate, "table": _table, "margin": _margin, "clash": _clash, "late": _late,
    "blame": _blame, "slow": _slow, "cheap": _cheap,
}


def wrong_sheets(house, name, sheets):
    """The indexes of those triples of a kind, a question and a value that do not hold."""
    # A name that there is not is refused without sheets, too.
    known = house[name].name
    found = [at for at, (kind, question, value) in enumerate(sheets) if not holds(house, known, kind, question, value)]
    return tuple(found)


def ring_holds(modules, name, value):
    """Whether any value is a ring without marks, the least place ahead, of a module of these, which may have such."""
    flats = {}
    for module in modules:
        flats[module.name] = flattened(module, flats)
    if not is_one_of(name, list(flats)):
        raise NoPlace(name)
    places, links = flats[name]
    if not isinstance(value, tuple) or len(value) == 0 or not all([is_one_of(place, places) for place in value]):
        return False
    if len(set(value)) < len(value) or value[0] != min(value):
        return False
    at_once = [(first, then) for first, then, marks, _ in links if marks == 0]
    return all([pair in at_once for pair in zip(value, [*value[1:], value[0]])])
