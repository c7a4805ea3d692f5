"""Menus: which modules can be called in the place of others, and what that makes of a module."""

from waitworks.errors import InvalidChoice, InvalidMenu
from waitworks.faces import face
from waitworks.houses import Module
from waitworks.kinds import is_number, is_one_of, is_sequence, is_tuple_of
from waitworks.partings import never_later


class Menu:
    """A menu for a module of a house: all choices, ascending, with their houses; each goes."""

    def __init__(self, house, name, offers):
        module = house[name]
        at = _first_wrong(house, module, offers)
        if at is not None:
            raise InvalidMenu(at)
        self.house = house
        self.name = name
        self.labels = [label for label, _ in offers]
        self.prices = [dict(list(some)) for _, some in offers]
        self.houses = {choice: self._house_with(module, choice) for choice in _all_choices(self.prices)}
        self.faces = {}

    def _house_with(self, module, choice):
        """The house in which the module makes this choice."""
        chosen = dict(list(zip(self.labels, choice)))
        calls = [(label, chosen.get(label, called)) for label, called in module.calls]
        return self.house.with_module(
            Module(module.name, module.inlets, module.outlets, module.stations, module.links, calls)
        )

    def check(self, choice):
        """Refuse what is no choice."""
        if not self.has(choice):
            raise InvalidChoice()

    def has(self, choice):
        """Whether any value is a choice."""
        if not is_tuple_of(choice, len(self.labels)):
            return False
        return all([is_one_of(name, list(prices)) for name, prices in zip(choice, self.prices)])

    def price(self, choice):
        """What a choice costs."""
        return sum([prices[name] for name, prices in zip(choice, self.prices)])

    def below(self, most):
        """The choices that cost less than this, ascending."""
        return [choice for choice in list(self.houses) if self.price(choice) < most]

    def face_of(self, choice):
        """The face of the module with a choice."""
        return face(self.houses[choice], self.name)

    def is_as_fast(self, one, other):
        """Whether all that the one choice calls is as fast as what the other one calls."""
        return all([self._is_faster(quick, slow) for quick, slow in zip(one, other)])

    def _is_faster(self, quick, slow):
        """Whether one module is as fast as another one."""
        if (quick, slow) not in self.faces:
            self.faces[quick, slow] = never_later(face(self.house, quick), face(self.house, slow))
        return self.faces[quick, slow]


def _all_choices(offered):
    """All tuples of one name of each of these dicts, ascending."""
    found = [()]
    for names in offered:
        found = [(*ahead, name) for ahead in found for name in sorted(list(names))]
    return found


def _first_wrong(house, module, offers):
    """The index of the first thing that is wrong in a menu for a module, 0 for no sequence, else None."""
    if not is_sequence(offers):
        return 0
    calls = dict(module.calls)
    ahead = {}
    for other in house.modules[:house.names.index(module.name)]:
        ahead[other.name] = other
    labels = []
    for at, pair in enumerate(offers):
        if not is_tuple_of(pair, 2) or not is_one_of(pair[0], list(calls)) or pair[0] in labels:
            return at
        if not _are_offers(pair[1], ahead, ahead[calls[pair[0]]]):
            return at
        labels.append(pair[0])
    return None


def _are_offers(value, ahead, called):
    """Whether this is a not empty sequence of offers with unlike modules in the place of the one that is called."""
    if not is_sequence(value) or len(value) == 0 or not all([_is_offer(offer, ahead, called) for offer in value]):
        return False
    return len(set([name for name, _ in value])) == len(value)


def _is_offer(offer, ahead, called):
    """Whether this is a pair of the name of a module with the same inlets and outlets, and a price."""
    if not is_tuple_of(offer, 2) or not is_one_of(offer[0], list(ahead)) or not is_number(offer[1]):
        return False
    module = ahead[offer[0]]
    return module.inlets == called.inlets and module.outlets == called.outlets
