"""Logs: what written goings tell of how long links last."""

from waitworks.checks import logged_times
from waitworks.courses import course
from waitworks.papers import gap


def log_of(house, name, arrivals, many):
    """The log of the first goings of the run, so many of each place."""
    rows = course(house, name, arrivals)
    return tuple([(place, tuple([rows[place].time(n) for n in range(many)])) for place in sorted(list(rows))])


def told_back(house, name, log):
    """For each link how long it lasts at most by the log; None if no going tells of it."""
    places, links = house.flat(name)
    return longest_lasts(links, logged_times(log, places))


def longest_lasts(links, times):
    """For each link the least time between goings that were logged at its beginning and its end, or None."""
    found = []
    for link in links:
        gaps = [gap(link, n, times) for n in range(link[2], len(times[link[1]]))]
        found.append(min(gaps, default=None))
    return tuple(found)


def explained(house, name, log):
    """Whether some lasts explain the log."""
    places, links = house.flat(name)
    times = logged_times(log, places)
    told = longest_lasts(links, times)
    if any([lasts is not None and lasts < 0 for lasts in told]):
        return False
    return _goes_so(house[name].inlets, links, times, told)


def explains(house, name, log, lasts):
    """Whether these lasts explain the log."""
    places, links = house.flat(name)
    return _goes_so(house[name].inlets, links, logged_times(log, places), lasts)


def _goes_so(inlets, links, times, lasts):
    """Whether all places but inlets go at just these times, if links last so long."""
    coming = links_to(links, times)
    for place in times:
        if place not in inlets:
            for n, time in enumerate(times[place]):
                if time != max([time_ahead(times[place], n), *came_by(coming[place], n, times, lasts)]):
                    return False
    return True


def links_to(links, places):
    """For each place the pairs of the number of a link to it and this link, in order: a dict."""
    coming = {place: [] for place in places}
    for at, link in enumerate(links):
        coming[link[1]].append((at, link))
    return coming


def time_ahead(times, n):
    """The time of the going ahead of the n-th one of a place, 0 for none."""
    return times[n - 1] if n > 0 else 0


def came_by(numbered, n, times, lasts):
    """When what the n-th going waits for by these links has come, if they last so long."""
    return [times[link[0]][n - link[2]] + lasts[at] for at, link in numbered if n >= link[2]]


def sure(house, name, log):
    """For each link how long it lasts in all that explains the log; None if it can last more or less."""
    places, links = house.flat(name)
    times = logged_times(log, places)
    told = longest_lasts(links, times)
    coming = links_to(links, times)
    found = []
    for at, (link, lasts) in enumerate(zip(links, told)):
        others = [pair for pair in coming[link[1]] if pair[0] != at]
        alone = lasts == 0 or (lasts is not None and _is_alone(link, lasts, others, times, told))
        found.append(lasts if alone else None)
    return tuple(found)


def _is_alone(link, lasts, others, times, told):
    """Whether a going is reached by this link alone, if links last as long as they can."""
    goings = times[link[1]]
    for n in range(link[2], len(goings)):
        if gap(link, n, times) == lasts:
            if goings[n] > max([time_ahead(goings, n), *came_by(others, n, times, told)]):
                return True
    return False
