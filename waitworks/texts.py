"""Texts of modules: their lines, and what they tell."""

from waitworks.errors import InvalidText
from waitworks.kinds import is_name, is_number_word

MOST_DIGITS = 3
KINDS = ("module", "in", "out", "at", "use", "link")
# Kinds of which there can be several lines, one behind the other.
MANY = ("use", "link")


def modules_told(text, many):
    """What a text tells: for each module its name, inlets, outlets, stations, links and calls.

    Behind so many modules none can begin (None: any number can be told).
    """
    if not isinstance(text, str):
        raise InvalidText(0)
    told = []
    last = ""
    if text == "":
        return told
    for at, line in enumerate(text.split("\n")):
        kind, *words = line.split(" ")
        if not _can_stand(kind, last) or not _is_right(kind, words):
            raise InvalidText(at)
        if kind == "module":
            if len(told) == many:
                raise InvalidText(at)
            told.append((words[0], [], [], [], [], []))
        else:
            _tell(told[-1], kind, words)
        last = kind
    return told


def _can_stand(kind, last):
    """Whether a line of this kind can stand behind one of that kind ("": at the beginning)."""
    if kind not in KINDS:
        return False
    if kind == "module" or last == "":
        return kind == "module"
    return KINDS.index(last) < KINDS.index(kind) or (kind == last and kind in MANY)


def _is_right(kind, words):
    """Whether these can be the words behind this one."""
    if kind == "link":
        if len(words) != 4 or not all([is_number_word(word, MOST_DIGITS) for word in words[2:]]):
            return False
        return all([_is_end(word) for word in words[:2]])
    if not all([is_name(word) for word in words]):
        return False
    if kind == "module":
        return len(words) == 1
    return len(words) == 2 if kind == "use" else len(words) > 0


def _is_end(word):
    """Whether this word has the form of an end: a name, or a label, a point and a name."""
    names = word.split(".")
    return len(names) <= 2 and all([is_name(name) for name in names])


def _tell(told, kind, words):
    """Put what a line tells to what is told of its module."""
    _, inlets, outlets, stations, links, calls = told
    if kind == "in":
        inlets.extend(words)
    elif kind == "out":
        outlets.extend(words)
    elif kind == "at":
        stations.extend(words)
    elif kind == "use":
        calls.append((words[0], words[1]))
    else:
        links.append((words[0], words[1], int(words[2]), int(words[3])))


def text_of(module):
    """The text of a module."""
    lines = [f"module {module.name}"]
    for kind, names in (("in", module.inlets), ("out", module.outlets), ("at", module.stations)):
        if len(names) > 0:
            lines.append(" ".join([kind, *names]))
    calls = [f"use {label} {name}" for label, name in module.calls]
    links = [f"link {first} {then} {marks} {lasts}" for first, then, marks, lasts in module.links]
    return "\n".join([*lines, *calls, *links])
