"""Blames: why no lasts explain a log."""

from waitworks.checks import logged_times
from waitworks.logs import came_by, links_to, longest_lasts, time_ahead
from waitworks.papers import gap, is_blame


def blame(house, name, log):
    """Some blame; None if the log is explained."""
    places, links = house.flat(name)
    times = logged_times(log, places)
    for at, link in enumerate(links):
        for n in range(link[2], len(times[link[1]])):
            if gap(link, n, times) < 0:
                return ("early", at, n)
    return _late_blame(house[name].inlets, links, times)


def _late_blame(inlets, links, times):
    """Some blame of a going that is later than all by which it could be reached, or None."""
    told = longest_lasts(links, times)
    coming = links_to(links, times)
    for place in times:
        if place not in inlets:
            for n, time in enumerate(times[place]):
                if time > max([time_ahead(times[place], n), *came_by(coming[place], n, times, told)]):
                    others = [_shortest_going(link, n, times, told[at]) for at, link in coming[place]]
                    return ("late", place, n, tuple(others))
    return None


def _shortest_going(link, n, times, lasts):
    """A going that shows that its link lasts no longer than this; None if it has none up to n."""
    if n < link[2]:
        return None
    gaps = [gap(link, m, times) for m in range(link[2], len(times[link[1]]))]
    return link[2] + gaps.index(lasts)


def blame_holds(house, name, log, value):
    """Whether any value is a blame."""
    places, links = house.flat(name)
    return is_blame(value, house[name].inlets, links, logged_times(log, places))


def spans_clash(house, name, spans, log):
    """The least place and going earlier than by all first numbers, or later than by all second ones; or None."""
    places, links = house.flat(name)
    times = logged_times(log, places)
    coming = links_to(links, times)
    least = [low for low, _ in spans]
    most = [high for _, high in spans]
    for place in places:
        if place not in house[name].inlets:
            for n, time in enumerate(times[place]):
                ahead = time_ahead(times[place], n)
                early = max([ahead, *came_by(coming[place], n, times, least)])
                late = max([ahead, *came_by(coming[place], n, times, most)])
                if not early <= time <= late:
                    return (place, n)
    return None
