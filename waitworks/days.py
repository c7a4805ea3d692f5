"""Days: arrivals come one by one, and tell what is sure by then."""

from waitworks.checks import check_place
from waitworks.courses import course
from waitworks.errors import NoPlace, Refused
from waitworks.faces import face
from waitworks.kinds import is_number, is_one_of, is_sequence, is_tuple_of
from waitworks.latest import check_wishes, latest_time
from waitworks.rings import highest_ways
from waitworks.rows import Row, first_above, unit


class Day:
    """A module of a house to which arrivals come."""

    def __init__(self, house, name):
        module = house[name]
        self.house = house
        self.name = name
        self.arrivals = ((),) * len(module.inlets)
        self._inlets = module.inlets
        self._outlets = module.outlets
        self._past = ()
        # What is looked for only when it is asked: the rows if all others come at once, and the face.
        self._known = None
        self._answer = None

    def _number_of(self, inlet):
        """The number of an inlet."""
        if not is_one_of(inlet, self._inlets):
            raise NoPlace(inlet)
        return self._inlets.index(inlet)

    def _go_on(self, arrivals, past):
        """Have these arrivals from now on, behind these that can be taken back."""
        self.arrivals = arrivals
        self._past = past
        self._known = None

    def come(self, inlet, time):
        """Tell the next arrival of an inlet, and how many it has had with it."""
        at = self._number_of(inlet)
        if not _can_come(self.arrivals[at], time):
            raise Refused(len(self.arrivals[at]))
        self._go_on(_with(self.arrivals, at, time), (*self._past, self.arrivals))
        return len(self.arrivals[at])

    def several(self, some):
        """Tell all of these arrivals, or none, and for each how many its inlet has had with it."""
        if not is_sequence(some):
            raise Refused(0)
        arrivals = self.arrivals
        told = []
        for number, pair in enumerate(some):
            if not is_tuple_of(pair, 2) or not is_one_of(pair[0], self._inlets):
                raise Refused(number)
            at = self._inlets.index(pair[0])
            if not _can_come(arrivals[at], pair[1]):
                raise Refused(number)
            arrivals = _with(arrivals, at, pair[1])
            told.append(len(arrivals[at]))
        if len(told) > 0:
            self._go_on(arrivals, (*self._past, self.arrivals))
        return tuple(told)

    def sure(self, place):
        """How many goings of a place are sure, from the first one on; None if all are."""
        places, links = self.house.flat(self.name)
        check_place(place, places)
        # The fewest marks on ways to it are the greatest sums of what they take.
        back = [(then, first, marks, lasts) for first, then, marks, lasts in links]
        found, _ = highest_ways({place: 0}, back, [-link[2] for link in back])
        pairs = list(zip(self._inlets, self.arrivals))
        return min([len(times) - found[inlet] for inlet, times in pairs if inlet in found], default=None)

    def earliest(self, place, n):
        """The earliest time at which a going can still be."""
        check_place(place, self.house.flat(self.name)[0])
        return self._rows()[place].time(n)

    def _rows(self):
        """The rows of all places if all others come at once."""
        if self._known is None:
            rows = [Row(times[:-1], times[-1:]) if len(times) > 0 else unit() for times in self.arrivals]
            self._known = course(self.house, self.name, rows)
        return self._known

    def time(self, place, n):
        """The time of a going if it is sure, else None."""
        many = self.sure(place)
        return self.earliest(place, n) if many is None or n < many else None

    def can_keep(self, wishes):
        """Whether arrivals can come with which no going of an outlet is later than its wish."""
        return self.late(wishes) is None

    def late(self, wishes):
        """The least going that is surely later than a wish, and the first such outlet; None if all can be kept."""
        check_wishes(wishes, self._outlets)
        rows = self._rows()
        found = [(first_above(rows[outlet], wish), at) for at, (outlet, wish) in enumerate(zip(self._outlets, wishes))]
        least = min([(n, at) for n, at in found if n is not None], default=None)
        return None if least is None else (least[0], self._outlets[least[1]])

    def due(self, inlet, wishes):
        """The latest time at which the next arrival of an inlet keeps wishes; "any" without one, None if none does."""
        at = self._number_of(inlet)
        if not self.can_keep(wishes):
            return None
        if self._answer is None:
            self._answer = face(self.house, self.name)
        found = latest_time(self._answer, wishes, at, len(self.arrivals[at]))
        return "any" if found is None else found

    def undo(self):
        """Take back the last deed; tells whether there was one."""
        if len(self._past) == 0:
            return False
        self._go_on(self._past[-1], self._past[:-1])
        return True

    def within(self, work):
        """What the work returns that is done with this day; behind it all is as ahead of it."""
        arrivals, past, known = self.arrivals, self._past, self._known
        try:
            return work(self)
        finally:
            self.arrivals, self._past, self._known = arrivals, past, known

    def __len__(self):
        return len(self._past)


def _can_come(times, time):
    """Whether any value is a time at which the next arrival behind these can come."""
    return is_number(time) and (len(times) == 0 or time >= times[-1])


def _with(arrivals, at, time):
    """These arrivals with one more of the inlet with this number."""
    return (*arrivals[:at], (*arrivals[at], time), *arrivals[at + 1:])
