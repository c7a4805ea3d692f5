"""Desks: works and days, by commands that are texts."""

from waitworks.days import Day
from waitworks.errors import InvalidCommand
from waitworks.houses import House, Module
from waitworks.kinds import is_number_word
from waitworks.rates import rate
from waitworks.works import Works

# For each command what its words are: w for any word, n for a number, t for a text of at least one word.
FORMS = {
    "put": "t", "drop": "w", "link": "wwwnn", "cut": "wwwnn", "text": "", "face": "w", "rate": "ww", "day": "w",
    "come": "wn", "sure": "w", "time": "wn", "undo": "",
}
# What needs a day, and behind what there is none.
BY_DAY = ("come", "sure", "time")
DEEDS = ("put", "drop", "link", "cut")
MOST_DIGITS = 4
NEWLINE = " ; "


class Desk:
    """Works, and a day of one of its modules, perhaps."""

    def __init__(self):
        self.works = Works(House([]))
        self.day = None

    def say(self, command):
        """Do a command, and tell what comes of it."""
        kind, given = _read(command)
        if kind in BY_DAY:
            if self.day is None:
                raise InvalidCommand()
            return self._by_day(kind, given)
        if kind in DEEDS:
            told = " ".join(self._deed(kind, given))
            self.day = None
            return told if told != "" else "-"
        if kind == "day":
            self.day = Day(self.works.house, given[0])
            return str(len(self.day.arrivals))
        if kind == "undo":
            return self._undo()
        return self._told(kind, given)

    def _deed(self, kind, given):
        """Change the works; tells the names that this tells."""
        if kind == "put":
            return self.works.put(Module.read(given[0]))
        if kind == "drop":
            return self.works.drop(given[0])
        name, *ends = given
        if kind == "link":
            return self.works.link(name, tuple(ends))
        return self.works.cut(name, tuple(ends))

    def _by_day(self, kind, given):
        """What the day tells."""
        if kind == "come":
            return str(self.day.come(given[0], given[1]))
        if kind == "sure":
            many = self.day.sure(given[0])
            return "all" if many is None else str(many)
        time = self.day.time(given[0], given[1])
        return "open" if time is None else str(time)

    def _undo(self):
        """Take something back: of the day, if there is one, else of the works."""
        done = self.works.undo() if self.day is None else self.day.undo()
        return "undone" if done else "nothing"

    def _told(self, kind, given):
        """What the works tell."""
        if kind == "text":
            text = str(self.works.house)
            return text.replace("\n", NEWLINE) if text != "" else "-"
        if kind == "face":
            told = _text_of_face(self.works.face(given[0]))
            return told if told != "" else "-"
        top, bottom = rate(self.works.house, given[0], given[1])
        return f"{top}/{bottom}"


def _text_of_face(face):
    """For each outlet the texts of its rows and of its clock."""
    outlets = []
    for rows, clock in zip(face.rows, face.clock):
        outlets.append(", ".join([str(row) for row in [*rows, clock]]))
    return NEWLINE.join(outlets)


def _read(command):
    """The pair of a command's first word and what is given to it."""
    if not isinstance(command, str) or "\n" in command:
        raise InvalidCommand()
    kind, *words = command.split(" ")
    if kind not in FORMS or "" in words:
        raise InvalidCommand()
    form = FORMS[kind]
    if form == "t":
        if len(words) == 0:
            raise InvalidCommand()
        return kind, [" ".join(words).replace(NEWLINE, "\n")]
    if len(words) != len(form):
        raise InvalidCommand()
    return kind, [_given(word, sign) for word, sign in zip(words, form)]


def _given(word, sign):
    """What a word of a command tells."""
    if sign == "w":
        return word
    if not is_number_word(word, MOST_DIGITS):
        raise InvalidCommand()
    return int(word)
