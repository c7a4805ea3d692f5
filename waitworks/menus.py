"""Menus: which modules can be called in the place of others, and what that makes of a module."""

from waitworks.errors import InvalidChoice, InvalidMenu
from waitworks.faces import face, face_with
from waitworks.houses import Module
from waitworks.kinds import is_number, is_one_of, is_sequence, is_tuple_of
from waitworks.partings import never_later
from waitworks.paths import firsts_of, layers, leading_to


class Menu:
    """A menu for a module of a house: all choices, ascending, of which each goes."""

    def __init__(self, house, name, offers):
        module = house[name]
        at = _first_wrong(house, module, offers)
        if at is not None:
            raise InvalidMenu(at)
        self.house = house
        self.module = module
        self.labels = [label for label, _ in offers]
        self.prices = [dict(list(some)) for _, some in offers]
        self.options = _all_choices(self.prices)
        self.known = {}
        self.orders = {}
        self._check_that_all_go()

    def _check_that_all_go(self):
        """Refuse the first choice by which a ring has no mark."""
        at = self.house.names.index(self.module.name)
        ahead = {}
        for other in self.house.modules[:at]:
            ahead[other.name] = joined_at_once(other, other.calls, ahead)
        for choice in self.options:
            joined = dict(ahead)
            joined[self.module.name] = joined_at_once(self.module, self._calls(choice), joined)
            for other in self.house.modules[at + 1:]:
                joined[other.name] = joined_at_once(other, other.calls, joined)
            if None in list(joined.values()):
                # This house cannot be made: that tells the ring.
                self.house_of(choice)

    def _calls(self, choice):
        """The calls of the module by a choice."""
        chosen = dict(list(zip(self.labels, choice)))
        return [(label, chosen.get(label, called)) for label, called in self.module.calls]

    def house_of(self, choice):
        """The house in which the module makes this choice."""
        old = self.module
        calls = self._calls(choice)
        return self.house.with_module(Module(old.name, old.inlets, old.outlets, old.stations, old.links, calls))

    def check(self, choice):
        """Refuse what is no choice."""
        if not self.has(choice):
            raise InvalidChoice()

    def has(self, choice):
        """Whether any value is a choice."""
        if not is_tuple_of(choice, len(self.labels)):
            return False
        return all([is_one_of(name, list(prices)) for name, prices in zip(choice, self.prices)])

    def price(self, choice):
        """What a choice costs."""
        return sum([prices[name] for name, prices in zip(choice, self.prices)])

    def below(self, most):
        """The choices that cost less than this, ascending."""
        return [choice for choice in self.options if self.price(choice) < most]

    def face_of(self, choice):
        """The face of the module with a choice."""
        faces = [(label, self._face_at(name)) for label, name in self._calls(choice)]
        return face_with(self.house, self.module.name, faces)

    def _face_at(self, name):
        """The face of a module that can be called."""
        if name not in self.known:
            self.known[name] = face(self.house, name)
        return self.known[name]

    def is_as_fast(self, one, other):
        """Whether all that the one choice calls is as fast as what the other one calls."""
        return all([self._is_faster(quick, slow) for quick, slow in zip(one, other)])

    def _is_faster(self, quick, slow):
        """Whether one module is as fast as another one."""
        if (quick, slow) not in self.orders:
            self.orders[quick, slow] = never_later(self._face_at(quick), self._face_at(slow))
        return self.orders[quick, slow]


def joined_at_once(module, calls, joined):
    """The pairs of an inlet and an outlet of a module between which a way has no mark; None if a ring has none.

    `joined` tells these pairs for what it calls (None is told on).
    """
    inner = [(label, joined[name]) for label, name in calls]
    if None in [pairs for _, pairs in inner]:
        return None
    steps = [(first, then, 0, 0) for first, then, marks, _ in module.links if marks == 0]
    for label, pairs in inner:
        steps.extend([(f"{label}.{inlet}", f"{label}.{outlet}", 0, 0) for inlet, outlet in pairs])
    places = list({place: True for step in steps for place in step[:2]})
    if len(layers(places, steps)) < len(places):
        return None
    firsts = firsts_of(steps)
    found = []
    for outlet in module.outlets:
        ahead = leading_to(outlet, firsts)
        found.extend([(inlet, outlet) for inlet in module.inlets if inlet in ahead])
    return found


def _all_choices(offered):
    """All tuples of one name of each of these dicts, ascending."""
    found = [()]
    for names in offered:
        found = [(*ahead, name) for ahead in found for name in sorted(list(names))]
    return found


def _first_wrong(house, module, offers):
    """The index of the first thing that is wrong in a menu for a module, 0 for no sequence, else None."""
    if not is_sequence(offers):
        return 0
    calls = dict(module.calls)
    ahead = {}
    for other in house.modules[:house.names.index(module.name)]:
        ahead[other.name] = other
    labels = []
    for at, pair in enumerate(offers):
        if not is_tuple_of(pair, 2) or not is_one_of(pair[0], list(calls)) or pair[0] in labels:
            return at
        if not _are_offers(pair[1], ahead, ahead[calls[pair[0]]]):
            return at
        labels.append(pair[0])
    return None


def _are_offers(value, ahead, called):
    """Whether this is a not empty sequence of offers with unlike modules in the place of the one that is called."""
    if not is_sequence(value) or len(value) == 0 or not all([_is_offer(offer, ahead, called) for offer in value]):
        return False
    return len(set([name for name, _ in value])) == len(value)


def _is_offer(offer, ahead, called):
    """Whether this is a pair of the name of a module with the same inlets and outlets, and a price."""
    if not is_tuple_of(offer, 2) or not is_one_of(offer[0], list(ahead)) or not is_number(offer[1]):
        return False
    module = ahead[offer[0]]
    return module.inlets == called.inlets and module.outlets == called.outlets
