"""Tidy modules: what does nothing goes out, step by step."""

from waitworks.errors import Refused
from waitworks.houses import House, Module
from waitworks.kinds import is_number, is_one_of, is_sequence, is_tuple_of
from waitworks.paths import feeding, ring_without_marks
from waitworks.tidy import courses_of, is_needless, lots_of


def stepped(module, steps):
    """The module behind some steps, one after the other."""
    now = _started(module)
    if not is_sequence(steps):
        raise Refused(0)
    for at, step in enumerate(steps):
        if not now.take(step):
            raise Refused(at)
    return now.module


def _started(module):
    """The module as it is ahead of all steps; it has to go."""
    return Cleaning(House([module])[module.name])


def is_tidy(module):
    """Whether no step can be done."""
    return _started(module).next_step() is None


def tidy_steps(module):
    """Some tuple of steps that leads to a tidy module."""
    return _all_steps(_started(module))


def _all_steps(now):
    """All steps that are done until no one can be done any more."""
    found = []
    step = now.next_step()
    while step is not None:
        now.take(step)
        found.append(step)
        step = now.next_step()
    return tuple(found)


def steps_hold(module, value):
    """Whether any value is a tuple of steps that leads to a tidy module."""
    now = _started(module)
    if not isinstance(value, tuple):
        return False
    for step in value:
        if not now.take(step):
            return False
    return now.next_step() is None


def tidied(module):
    """Some tidy module with the same name and face."""
    now = _started(module)
    _all_steps(now)
    return now.module


class Cleaning:
    """A module from which one thing after another goes out, with the rows by which it goes, if they are known."""

    def __init__(self, module):
        self.module = module
        self.courses = None

    def take(self, step):
        """Do a step, any value; tells whether it can be done."""
        if is_tuple_of(step, 2) and is_one_of(step[0], ("idle",)):
            return self._take_idle(step[1])
        if is_tuple_of(step, 2) and is_one_of(step[0], ("link",)):
            return self._take_link(step[1])
        if is_tuple_of(step, 3) and is_one_of(step[0], ("join",)):
            return self._take_join(step[1], step[2])
        return False

    def next_step(self):
        """Some step that can be done; None if there is none."""
        idle = self._idle()
        if len(idle) > 0:
            return ("idle", idle[0])
        for place, station in self._pairs():
            if self._joined(place, station) is not None:
                return ("join", place, station)
        self._know()
        for at in range(len(self.module.links)):
            if is_needless(self.module, at, self.courses):
                return ("link", at)
        return None

    def _know(self):
        """Find the rows by which the module goes."""
        if self.courses is None:
            self.courses = courses_of(self.module)

    def _idle(self):
        """The stations from which no way leads to an outlet."""
        used = {}
        for outlet in self.module.outlets:
            used.update(feeding(self.module.links, outlet))
        return [station for station in self.module.stations if station not in used]

    def _take_idle(self, station):
        """Take an idle station out, if this is one."""
        if not is_one_of(station, self._idle()):
            return False
        links = [link for link in self.module.links if station not in link[:2]]
        self._put(links, station)
        # Other idle stations that waited for it may go earlier now.
        self.courses = None
        return True

    def _take_link(self, at):
        """Take a needless link out, if this is its number; all rows stay."""
        if not is_number(at) or at >= len(self.module.links):
            return False
        self._know()
        if not is_needless(self.module, at, self.courses):
            return False
        self._put([*self.module.links[:at], *self.module.links[at + 1:]], None)
        return True

    def _pairs(self):
        """The pairs of a place and a station that are in step, neither later."""
        self._know()
        found = []
        for lot in lots_of(self.courses):
            for place, offset in lot:
                if place not in self.module.outlets:
                    found.extend([(place, other) for other, far in lot if far == offset and other != place])
        return [(place, station) for place, station in found if station in self.module.stations]

    def _take_join(self, place, station):
        """Join a station to a place that goes just so, if it can be done; the rows of all others stay."""
        if not isinstance(place, str) or not isinstance(station, str) or (place, station) not in self._pairs():
            return False
        links = self._joined(place, station)
        if links is None:
            return False
        self._put(links, station)
        return True

    def _joined(self, place, station):
        """The links with a place instead of a station; None if a ring that never goes would come about."""
        found = []
        for first, then, marks, lasts in self.module.links:
            begin = place if first == station else first
            end = place if then == station else then
            if end not in self.module.inlets and (begin != end or marks > 0):
                found.append((begin, end, marks, lasts))
        places = [*self.module.inlets, *self.module.outlets, *self.module.stations]
        return None if len(ring_without_marks(places, found)) > 0 else found

    def _put(self, links, station):
        """Let the module have these links, without a station (None: with all)."""
        old = self.module
        stations = [other for other in old.stations if other != station]
        self.module = Module(old.name, old.inlets, old.outlets, stations, links)
        if self.courses is not None:
            self.courses = [{place: rows[place] for place in rows if place != station} for rows in self.courses]
