"""Rows: the times of goings, some first ones and then turns that come again for ever."""

from math import lcm

from waitworks.errors import InvalidRow, InvalidText
from waitworks.kinds import in_lowest_terms, is_integer, is_number, is_number_word, is_sequence

MOST_DIGITS = 12


class Row:
    """The times of all goings of a place; None stands for nothing, below all times."""

    def __init__(self, first, again, more=0):
        word = _wrong_argument(first, again, more)
        if word is not None:
            raise InvalidRow(word)
        turn = _shortest_turn(again, more)
        grow = more * turn // len(again)
        things = [*first, *again]
        begin = _shortest_first(things, len(first), turn, grow)
        self.first = tuple(things[:begin])
        self.again = tuple(things[begin:begin + turn])
        self.more = grow

    @staticmethod
    def read(text):
        """The row with this text."""
        first, again, more = _arguments_told(text)
        return Row(first, again, more)

    @property
    def rate(self):
        """How much later each going is than the one ahead, in the long run."""
        return in_lowest_terms(self.more, len(self.again))

    def time(self, n):
        """The time of the n-th going, or None."""
        if n < len(self.first):
            return self.first[n]
        turns, at = divmod(n - len(self.first), len(self.again))
        time = self.again[at]
        return None if time is None else time + turns * self.more

    def count(self, time):
        """How many goings are at this time at most, or nothing; None if endlessly many are."""
        if is_empty(self) or (self.more == 0 and time >= self.again[0]):
            return None
        if time < self.again[0]:
            return len([thing for thing in self.first if thing is None or thing <= time])
        turns, rest = divmod(time - self.again[0], self.more)
        begun = len([thing for thing in self.again if thing <= self.again[0] + rest])
        return len(self.first) + turns * len(self.again) + begun

    def __eq__(self, other):
        if not isinstance(other, Row):
            return False
        return self.first == other.first and self.again == other.again and self.more == other.more

    def __str__(self):
        first = [_word_of(thing) for thing in self.first]
        again = [_word_of(thing) for thing in self.again]
        return " ".join([*first, "|", *again, "+", str(self.more)])


def _rises(things):
    """Whether these are times that never fall, with nothing at their beginning only."""
    last = None
    for thing in things:
        if thing is not None:
            if not is_integer(thing) or (last is not None and thing < last):
                return False
            last = thing
        elif last is not None:
            return False
    return True


def _wrong_argument(first, again, more):
    """The name of the first argument that makes no row, or None."""
    if not is_sequence(first) or not _rises(first):
        return "first"
    if not is_sequence(again) or len(again) == 0 or not _rises(again):
        return "again"
    end = first[-1] if len(first) > 0 else None
    if again[0] is None:
        if again[-1] is not None or end is not None:
            return "again"
        return None if is_number(more) and more == 0 else "more"
    if end is not None and again[0] < end:
        return "again"
    return None if is_number(more) and more >= again[-1] - again[0] else "more"


def _shortest_turn(again, more):
    """The least number of goings after which a row comes again."""
    whole = len(again)
    for turn in range(1, whole):
        if whole % turn == 0 and more * turn % whole == 0:
            if list(again[turn:]) == all_later(again[:whole - turn], more * turn // whole):
                return turn
    return whole


def all_later(things, lasts):
    """These times, so much later; nothing stays nothing."""
    return [None if thing is None else thing + lasts for thing in things]


def _shortest_first(things, begin, turn, grow):
    """The least place from which on these things come again in such turns."""
    while begin > 0 and [things[begin - 1 + turn]] == all_later([things[begin - 1]], grow):
        begin -= 1
    return begin


def _word_of(thing):
    """The word for a time or nothing in a row's text."""
    return "-" if thing is None else str(thing)


def _arguments_told(text):
    """The arguments that a row's text tells."""
    if not isinstance(text, str):
        raise InvalidText(0)
    words = text.split(" ")
    if words.count("|") != 1 or len(words) < 4 or words[-2] != "+":
        raise InvalidText(0)
    bar = words.index("|")
    told = [*words[:bar], *words[bar + 1:-2]]
    if bar > len(words) - 4 or not is_number_word(words[-1], MOST_DIGITS):
        raise InvalidText(0)
    if not all([_is_thing_word(word) for word in told]):
        raise InvalidText(0)
    things = [None if word == "-" else int(word) for word in told]
    return things[:bar], things[bar:], int(words[-1])


def _is_thing_word(word):
    """Whether this word tells a time or nothing."""
    if word.startswith("-") and word != "-0":
        return word == "-" or is_number_word(word[1:], MOST_DIGITS)
    return is_number_word(word, MOST_DIGITS)


def unit():
    """The row of zeros: each row is the same behind it."""
    return Row((), (0,), 0)


def empty():
    """The row that has nothing at all."""
    return Row((), (None,), 0)


def is_empty(row):
    """Whether a row has nothing at all."""
    return row.again[0] is None


def nothings(row):
    """At how many places a row that is not empty has nothing."""
    return len([thing for thing in row.first if thing is None])


def later(row, marks, lasts):
    """The row that has at n what this one has at n - marks, and lasts more."""
    first = [*[None] * marks, *all_later(row.first, lasts)]
    return Row(first, all_later(row.again, lasts), row.more)


def from_going(row, n):
    """The row of the goings from the n-th one on."""
    first = row.first[n:]
    begin = n + len(first)
    return Row(first, [row.time(begin + at) for at in range(len(row.again))], row.more)


def is_at_most(one, other):
    """Whether the one row is nowhere above the other one."""
    return first_above(one, other) is None


def first_above(one, other):
    """The least place at which the one row is above the other one, or None."""
    if is_empty(one):
        return None
    if is_empty(other):
        return nothings(one)
    begin, turn, grow, gaps = gaps_between(one, other)
    for n in range(begin):
        if _is_above(one.time(n), other.time(n)):
            return n
    found = [n for n, gap in enumerate(gaps, start=begin) if gap > 0]
    if grow > 0:
        found.extend([n + turn * (-gap // grow + 1) for n, gap in enumerate(gaps, start=begin) if gap <= 0])
    return min(found, default=None)


def last_above(one, other):
    """The least place from which on the one row (neither empty) is nowhere above the other one, or None."""
    begin, turn, grow, gaps = gaps_between(one, other)
    if grow > 0 or (grow == 0 and max(gaps) > 0):
        return None
    found = [n + turn * ((gap - 1) // -grow) for n, gap in enumerate(gaps, start=begin) if gap > 0]
    if len(found) > 0:
        return max(found) + 1
    for n in reversed(range(begin)):
        if _is_above(one.time(n), other.time(n)):
            return n + 1
    return 0


def gaps_between(one, other):
    """How far a row is above another one (neither empty) from some place on: this place, after how
    many goings all comes again, how much wider gaps are then, and the gaps of these goings."""
    begin = max(len(one.first), len(other.first))
    turn = lcm(len(one.again), len(other.again))
    gaps = [one.time(n) - other.time(n) for n in range(begin, begin + turn)]
    return begin, turn, growth(one, turn) - growth(other, turn), gaps


def growth(row, turn):
    """How much later a row is after so many goings, in which it comes again."""
    return row.more * turn // len(row.again)


def _is_above(time, other):
    """Whether a time is above another one; nothing is below all."""
    return time is not None and (other is None or time > other)
