"""Works that are changed: deeds on the text of a house, which tell whose faces they change, and can be taken back."""

from waitworks.errors import NoPlace, Refused
from waitworks.faces import face, face_with
from waitworks.houses import House, Module
from waitworks.kinds import is_link, is_one_of


class Works:
    """A house whose text changes."""

    def __init__(self, house):
        self.house = house
        self._faces = _faces_of(house, House([]), {})
        self._past = ()

    def put(self, module):
        """Put a module in the place of the one with its name, or behind all others."""
        return self._go_on(self.house.with_module(module))

    def drop(self, name):
        """Take a module out."""
        return self._go_on(self.house.without(name))

    def link(self, name, link):
        """Put a link behind the others of a module."""
        module = self.house[name]
        return self.put(_with_links(module, [*module.links, link]))

    def cut(self, name, link):
        """Take the first link out of a module that is equal to this one."""
        module = self.house[name]
        if not is_link(link) or link not in module.links:
            raise Refused(len(module.links))
        at = module.links.index(link)
        return self.put(_with_links(module, [*module.links[:at], *module.links[at + 1:]]))

    def _go_on(self, house):
        """Have this house from now on; tells the names of the modules that are new, or have other faces."""
        faces = _faces_of(house, self.house, self._faces)
        told = [name for name in house.names if name not in self._faces or faces[name] != self._faces[name]]
        self._past = (*self._past, (self.house, self._faces))
        self.house, self._faces = house, faces
        return tuple(told)

    def face(self, name):
        """The face of a module as it is now."""
        if not is_one_of(name, self.house.names):
            raise NoPlace(name)
        return self._faces[name]

    def alike(self, many):
        """Whether the house so many deeds ago had modules of the same names, each with the same face."""
        ago = [faces for _, faces in self._past]
        return [*ago, self._faces][len(ago) - many] == self._faces

    def undo(self):
        """Take back the last deed; tells whether there was one."""
        if len(self._past) == 0:
            return False
        self.house, self._faces = self._past[-1]
        self._past = self._past[:-1]
        return True

    def within(self, work):
        """What the work returns that is done with these works; behind it all is as ahead of it."""
        house, faces, past = self.house, self._faces, self._past
        try:
            return work(self)
        finally:
            self.house, self._faces, self._past = house, faces, past

    def __len__(self):
        return len(self._past)


def _with_links(module, links):
    """The module with these links."""
    return Module(module.name, module.inlets, module.outlets, module.stations, links, module.calls)


def _faces_of(house, old, known):
    """The faces of all modules of a house, by their names; known are those of an old house.

    A face is looked for only if the module is another one, or what it calls has another face.
    """
    texts = {module.name: module for module in old.modules}
    found = {}
    for module in house.modules:
        name = module.name
        called = [called for _, called in module.calls]
        stays = name in texts and texts[name] == module
        if stays and all([other in known and found[other] == known[other] for other in called]):
            found[name] = known[name]
        else:
            found[name] = _face_by(house, module, found)
    return found


def _face_by(house, module, faces):
    """The face of a module, by the faces of those that it calls."""
    if len(module.calls) == 0:
        return face(house, module.name)
    return face_with(house, module.name, [(label, faces[called]) for label, called in module.calls])
