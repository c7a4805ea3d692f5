"""Goings walked one after another, and the papers that tell of them.

Places and links are those of a flat module; `given` tells the rows of its inlets.
"""

from waitworks.kinds import are_pairs, is_integer, is_number, is_tuple_of
from waitworks.paths import feeding, layers
from waitworks.rows import growth


def walked(places, links, given, many):
    """The times of the first goings of all places, so many of each: a dict."""
    times = {place: [] for place in layers(places, links)}
    ways = {place: [] for place in times}
    for first, then, marks, lasts in links:
        ways[then].append((times[first], marks, lasts))
    steps = [(times[place], ways[place], given.get(place)) for place in times]
    for n in range(many):
        for mine, coming, row in steps:
            time = 0 if n == 0 else mine[-1]
            if row is not None:
                time = row.time(n)
            for others, marks, lasts in coming:
                if n >= marks and others[n - marks] + lasts > time:
                    time = others[n - marks] + lasts
            mine.append(time)
    return times


def time_walked(place, n, links, given):
    """The time of the n-th going of a place."""
    fed = feeding(links, place)
    coming = [link for link in links if link[1] in fed]
    return walked(list(fed), coming, given, n + 1)[place][n]


def is_chain(value, place, n, links, given):
    """Whether any value is a chain for a going, if its first time is that of this going.

    From its end on each going is no earlier than told. If the one ahead is no later, none of the others is.
    """
    if not isinstance(value, tuple) or len(value) == 0 or not all([_is_going(step) for step in value]):
        return False
    if value[0][:2] != (place, n) or not all([_waits(step, then, links) for step, then in zip(value, value[1:])]):
        return False
    last, m, time = value[-1]
    return time == 0 or (last in given and given[last].time(m) == time)


def _is_going(step):
    """Whether this is a triple of a string, a number and a time."""
    return is_tuple_of(step, 3) and isinstance(step[0], str) and is_number(step[1]) and is_integer(step[2])


def _waits(step, then, links):
    """Whether a going waits just so long for another one: for the going ahead, or by a link."""
    place, n, time = step
    first, m, start = then
    return then == (place, n - 1, time) or (first, place, n - m, time - start) in links


def most_marks(links):
    """How far back run papers look: the greatest number of marks, at least 1."""
    return max([1, *[link[2] for link in links]])


def is_run_form(value, places):
    """Whether any value has the form of a run paper for these places (a growth below 0 is that of no row)."""
    if not is_tuple_of(value, 3):
        return False
    begin, turn, growths = value
    return is_number(begin) and is_number(turn) and turn > 0 and are_pairs(growths, places)


def comes_again(row, start, turn, grow):
    """Whether a row comes again in such turns, each so much later, from this place on."""
    return start >= len(row.first) and turn % len(row.again) == 0 and growth(row, turn) == grow


def is_run_paper(value, places, links, given):
    """Whether any value is a right run paper, by its words."""
    if not is_run_form(value, places):
        return False
    begin, turn, growths = value
    grows = dict(growths)
    start = begin - most_marks(links)
    if start < 0 or any([grows[link[0]] > grows[link[1]] for link in links]):
        return False
    if not all([comes_again(given[place], start, turn, grows[place]) for place in given]):
        return False
    times = walked(places, links, given, begin + turn)
    for place, grow in growths:
        mine = times[place]
        if [time + grow for time in mine[start:begin]] != mine[start + turn:begin + turn]:
            return False
        ways = [link for link in links if link[1] == place and grows[link[0]] == grow]
        if place not in given and not _is_reached(mine, begin, grow, [(times[link[0]], *link[2:]) for link in ways]):
            return False
    return True


def _is_reached(times, begin, grow, ways):
    """Whether each going from one on is at 0, and nothing grows, or comes with the one ahead, or by these ways."""
    for n in range(begin, len(times)):
        time = times[n]
        if time != times[n - 1] and (time != 0 or grow != 0):
            if not any([others[n - marks] + lasts == time for others, marks, lasts in ways]):
                return False
    return True
