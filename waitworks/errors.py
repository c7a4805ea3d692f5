"""All errors of the package. Each keeps what it was made with, themselves and not copies of them."""


class WaitError(ValueError):
    """What all errors but NoPlace are."""


class InvalidRow(WaitError):
    """No row: the parameter that is wrong."""

    def __init__(self, word):
        self.word = word


class InvalidModule(WaitError):
    """No module: the parameter that is wrong."""

    def __init__(self, word):
        self.word = word


class InvalidHouse(WaitError):
    """No house: the index of the first thing that does not fit."""

    def __init__(self, at):
        self.at = at


class InvalidText(WaitError):
    """No text of this kind: the number of the first line that is wrong."""

    def __init__(self, at):
        self.at = at


class NeverGoes(WaitError):
    """Places whose first goings wait for themselves: their ring."""

    def __init__(self, ring):
        self.ring = ring


class InvalidArrivals(WaitError):
    """No arrivals: the index of the first thing that is wrong."""

    def __init__(self, at):
        self.at = at


class InvalidWishes(WaitError):
    """No wishes: the index of the first thing that is wrong."""

    def __init__(self, at):
        self.at = at


class InvalidContract(WaitError):
    """No contract."""


class InvalidTally(WaitError):
    """No tally: the parameter that is wrong."""

    def __init__(self, word):
        self.word = word


class InvalidLog(WaitError):
    """No log: the index of the first thing that is wrong."""

    def __init__(self, at):
        self.at = at


class InvalidMenu(WaitError):
    """No menu: the index of the first thing that is wrong."""

    def __init__(self, at):
        self.at = at


class InvalidChoice(WaitError):
    """No choice."""


class InvalidGoals(WaitError):
    """No goals: the index of the first thing that is wrong."""

    def __init__(self, at):
        self.at = at


class InvalidCommand(WaitError):
    """No command."""


class Refused(WaitError):
    """What can't be done: the index or number that tells where."""

    def __init__(self, at):
        self.at = at


class NoPlace(KeyError):
    """A name or place that there is not."""

    def __init__(self, name):
        self.name = name
