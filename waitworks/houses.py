"""Modules, and houses of modules that call one another."""

from waitworks.errors import InvalidHouse, InvalidModule, InvalidText, NeverGoes, NoPlace
from waitworks.flattening import flattened
from waitworks.kinds import is_link, is_name, is_one_of, is_sequence, is_tuple_of
from waitworks.paths import layers, ring_without_marks
from waitworks.texts import modules_told, text_of


class Module:
    """Stations that wait for one another, with inlets, outlets and calls of other modules."""

    def __init__(self, name, inlets, outlets, stations, links, calls=()):
        word = _wrong_argument(name, inlets, outlets, stations, links, calls)
        if word is not None:
            raise InvalidModule(word)
        self.name = name
        self.inlets = tuple(inlets)
        self.outlets = tuple(outlets)
        self.stations = tuple(stations)
        self.links = tuple(links)
        self.calls = tuple(calls)

    @staticmethod
    def read(text):
        """The module with this text."""
        told = modules_told(text, 1)
        if len(told) == 0:
            raise InvalidText(0)
        return _made(told[0])

    def __eq__(self, other):
        if not isinstance(other, Module):
            return False
        if self.name != other.name or self.inlets != other.inlets or self.outlets != other.outlets:
            return False
        return self.stations == other.stations and self.links == other.links and self.calls == other.calls

    def __str__(self):
        return str(text_of(self))


class House:
    """Modules with unlike names, each of which calls only such that stand ahead of it."""

    def __init__(self, modules):
        at = _first_wrong(modules)
        if at is not None:
            raise InvalidHouse(at)
        flats = {}
        levels = {}
        for module in modules:
            places, links = flattened(module, flats)
            found = layers(places, links)
            if len(found) < len(places):
                raise NeverGoes(ring_without_marks(places, links))
            flats[module.name] = (places, links)
            levels[module.name] = found
        self.modules = tuple(modules)
        self._flats = flats
        self._levels = levels

    @staticmethod
    def read(text):
        """The house with this text."""
        return House([_made(told) for told in modules_told(text, None)])

    @property
    def names(self):
        """The names of the modules, in order."""
        return tuple([module.name for module in self.modules])

    def with_module(self, module):
        """The house with a module in the place of the one with its name, or behind all."""
        if not isinstance(module, Module) or module.name not in self.names:
            return House([*self.modules, module])
        return House([module if old.name == module.name else old for old in self.modules])

    def without(self, name):
        """The house without the module with a name."""
        gone = self[name]
        return House([module for module in self.modules if module.name != gone.name])

    def flat(self, name):
        """The pair of all places and all links of a module, both ascending."""
        return self._flats[self[name].name]

    def levels(self, name):
        """The levels of all places of a module, each behind those that it waits for without marks: a dict."""
        return self._levels[self[name].name]

    def __len__(self):
        return len(self.modules)

    def __getitem__(self, name):
        for module in self.modules:
            if module.name == name:
                return module
        raise NoPlace(name)

    def __iter__(self):
        raise TypeError("a house is not iterable")

    def __eq__(self, other):
        return isinstance(other, House) and self.modules == other.modules

    def __str__(self):
        return "\n".join([str(module) for module in self.modules])


def _made(told):
    """The module of which a text tells this."""
    name, inlets, outlets, stations, links, calls = told
    return Module(name, inlets, outlets, stations, links, calls)


def _wrong_argument(name, inlets, outlets, stations, links, calls):
    """The name of the first argument that makes no module, or None."""
    if not is_name(name):
        return "name"
    taken = []
    for word, names in (("inlets", inlets), ("outlets", outlets), ("stations", stations)):
        if not is_sequence(names) or not _are_free(names, taken):
            return word
        taken.extend(names)
    labels = _labels(calls)
    begins = [*inlets, *stations]
    ends = [*stations, *outlets]
    if not is_sequence(links) or not all([_is_right_link(link, begins, ends, labels) for link in links]):
        return "links"
    if not is_sequence(calls) or not all([_is_call(call) for call in calls]) or not _are_free(labels, taken):
        return "calls"
    return None


def _are_free(names, taken):
    """Whether all of this are names, unlike one another and those that are taken."""
    if not all([is_name(name) for name in names]):
        return False
    return len(set(names)) == len(names) and not any([name in taken for name in names])


def _labels(calls):
    """The labels that calls have, whatever else they are."""
    if not is_sequence(calls):
        return []
    return [call[0] for call in calls if isinstance(call, tuple) and len(call) > 0]


def _is_call(call):
    """Whether this is a pair of a label and the name of a module."""
    return is_tuple_of(call, 2) and is_name(call[0]) and is_name(call[1])


def _is_right_link(link, begins, ends, labels):
    """Whether this is a link that begins and ends where links can."""
    return is_link(link) and _is_end(link[0], begins, labels) and _is_end(link[1], ends, labels)


def _is_end(end, names, labels):
    """Whether this is one of these names, or a label, a point and a name."""
    if end in names:
        return True
    label, point, name = end.partition(".")
    return point == "." and label in labels and is_name(name)


def _first_wrong(modules):
    """The index of the first thing that does not fit into a house, 0 for no sequence, else None."""
    if not is_sequence(modules):
        return 0
    ahead = {}
    for at, module in enumerate(modules):
        if not isinstance(module, Module) or module.name in ahead or not _fits(module, ahead):
            return at
        ahead[module.name] = module
    return None


def _fits(module, ahead):
    """Whether a module calls only such that stand ahead of it, by their inlets and outlets."""
    called = {label: ahead[name] for label, name in module.calls if name in ahead}
    if len(called) < len(module.calls):
        return False
    for first, then, _, _ in module.links:
        label, point, name = first.partition(".")
        if point == "." and not is_one_of(name, called[label].outlets):
            return False
        label, point, name = then.partition(".")
        if point == "." and not is_one_of(name, called[label].inlets):
            return False
    return True
