"""Counts: tallies tell for each time how many goings have been by then."""

from math import lcm

from waitworks.errors import InvalidTally
from waitworks.kinds import in_lowest_terms, is_integer, is_less, is_number, is_sequence, is_tuple_of
from waitworks.rows import Row, empty, is_empty, nothings
from waitworks.steps import (
    begin_of, changes_of, least_form, meeting, steps_ahead, steps_until, told_by, told_together,
)


class Tally:
    """How many goings have been at each time; None tells endless, more than all numbers."""

    def __init__(self, under, first, again, turn, more):
        word = _wrong_argument(under, first, again, turn, more)
        if word is not None:
            raise InvalidTally(word)
        self.under = under
        form = least_form(first, again, turn, more)
        self.first = form[0]
        self.again = form[1]
        self.turn = form[2]
        self.more = form[3]

    @property
    def rate(self):
        """How many more goings there are at each time, in the long run; None if something is endless."""
        return in_lowest_terms(self.more, self.turn) if len(self.again) > 0 else None

    def by(self, time):
        """How many goings have been by a time; None for endless."""
        return told_by(self, time)

    def __eq__(self, other):
        if not isinstance(other, Tally):
            return False
        if self.under != other.under or self.first != other.first or self.again != other.again:
            return False
        return self.turn == other.turn and self.more == other.more


def _wrong_argument(under, first, again, turn, more):
    """The name of the first argument that makes no tally, or None."""
    if under is not None and not is_number(under):
        return "under"
    if not is_sequence(first) or not all([_is_step(step) or _is_endless_step(step) for step in first]):
        return "first"
    if not _rise([(None, under), *first]):
        return "first"
    if not is_sequence(again) or not all([_is_step(step) for step in again]):
        return "again"
    last = first[-1] if len(first) > 0 else (None, under)
    if last[1] is None:
        if len(again) > 0:
            return "again"
        if not is_number(turn) or turn > 0:
            return "turn"
        return None if is_number(more) and more == 0 else "more"
    if len(again) == 0 or not _rise([last, *again]):
        return "again"
    if not is_number(turn) or turn <= again[-1][0] - again[0][0]:
        return "turn"
    return None if is_number(more) and more > again[-1][1] - again[0][1] else "more"


def _is_step(step):
    """Whether this is a pair of a time and a number."""
    return is_tuple_of(step, 2) and is_integer(step[0]) and is_number(step[1])


def _is_endless_step(step):
    """Whether this is a pair of a time and endless."""
    return is_tuple_of(step, 2) and is_integer(step[0]) and step[1] is None


def _rise(steps):
    """Whether times and counts rise from step to step, with endless at the end alone (no time: ahead of all)."""
    for (time, told), (later_time, later_told) in zip(steps, steps[1:]):
        if told is None or (later_told is not None and later_told <= told):
            return False
        if time is not None and later_time <= time:
            return False
    return True


def endless():
    """The tally that is endless all along."""
    return Tally(None, (), (), 0, 0)


def tally(row):
    """The tally of the goings of a row."""
    if is_empty(row):
        return endless()
    start = row.again[0]
    first = [(time, row.count(time)) for time in _unlike(row.first) if time < start]
    if row.more == 0:
        return Tally(nothings(row), [*first, (start, None)], (), 0, 0)
    again = [(time, row.count(time)) for time in _unlike(row.again) if time < start + row.more]
    return Tally(nothings(row), first, again, row.more, len(row.again))


def _unlike(things):
    """The times among these things, each once."""
    return list({time: True for time in things if time is not None})


def goings(counts):
    """The row of the goings that a tally counts."""
    if counts.under is None:
        return empty()
    times = [None] * counts.under
    told = counts.under
    for time, there in [*counts.first, *counts.again[:1]]:
        if there is None:
            return Row(times, [time])
        times.extend([time] * (there - told))
        told = there
    # What comes at the beginning of the next turn belongs to this one: there may be more of it than at first.
    again = []
    for time, there in [*counts.again[1:], (counts.again[0][0] + counts.turn, counts.again[0][1] + counts.more)]:
        again.extend([time] * (there - told))
        told = there
    return Row(times, again, counts.turn)


def shifted(counts, marks, lasts):
    """The tally that tells so much later what this one tells, and so many marks more."""
    if counts.under is None:
        return endless()
    first = [(time + lasts, None if told is None else told + marks) for time, told in counts.first]
    again = [(time + lasts, told + marks) for time, told in counts.again]
    return Tally(counts.under + marks, first, again, counts.turn, counts.more)


def together(tallies):
    """The tally that tells the sum of what these tell."""
    if any([counts.under is None for counts in tallies]):
        return endless()
    stops = _stops(tallies)
    if len(stops) > 0:
        return _picked(tallies, _sum_of, min(stops), 0, 0)
    turn = _common_turn(tallies)
    more = sum([counts.more * turn // counts.turn for counts in tallies])
    return _picked(tallies, _sum_of, max([begin_of(counts) for counts in tallies]), turn, more)


def _stops(tallies):
    """The times from which on some of these are endless (not ahead of all times)."""
    return [begin_of(counts) for counts in tallies if len(counts.again) == 0]


def _common_turn(tallies):
    """The least time in which all of these come again."""
    turn = 1
    for counts in tallies:
        turn = lcm(turn, counts.turn)
    return turn


def _picked(tallies, pick, begin, turn, more):
    """The tally that tells what is picked of what these tell; from a time on it comes again so, or stays."""
    start, together_told = told_together(tallies, begin + turn + 1)
    told = [(time, pick(there)) for time, there in together_told]
    changes = changes_of(pick(start), told)
    first = [step for step in changes if step[0] <= begin]
    return Tally(pick(start), first, changes[len(first):], turn, more)


def _sum_of(told):
    """The sum of some counts."""
    return None if None in told else sum(told)


def _least_told(told):
    """The least of some counts."""
    return min([there for there in told if there is not None], default=None)


def _most_told(told):
    """The greatest of some counts."""
    return None if None in told else max(told)


def merged(rows):
    """The row of all goings of some rows, by their times."""
    return goings(together([tally(row) for row in rows]))


def least_of(tallies):
    """The tally that tells at each time the least that these tell."""
    some = [counts for counts in tallies if counts.under is not None]
    if len(some) == 0:
        return endless()
    begins = [begin_of(counts) for counts in some]
    live = [counts for counts in some if len(counts.again) > 0]
    if len(live) == 0:
        return _picked(some, _least_told, max(begins), 0, 0)
    slow = live[0]
    for counts in live:
        if is_less(counts.rate, slow.rate):
            slow = counts
    begins.extend([meeting(slow, counts) for counts in live if counts.rate != slow.rate])
    turn = _common_turn([counts for counts in live if counts.rate == slow.rate])
    return _picked(some, _least_told, max(begins), turn, slow.more * turn // slow.turn)


def most_of(tallies):
    """The tally that tells at each time the greatest that these tell."""
    if any([counts.under is None for counts in tallies]):
        return endless()
    stops = _stops(tallies)
    if len(stops) > 0:
        return _picked(tallies, _most_told, min(stops), 0, 0)
    quick = tallies[0]
    for counts in tallies:
        if is_less(quick.rate, counts.rate):
            quick = counts
    begins = [begin_of(counts) for counts in tallies]
    begins.extend([meeting(counts, quick) for counts in tallies if counts.rate != quick.rate])
    turn = _common_turn([counts for counts in tallies if counts.rate == quick.rate])
    return _picked(tallies, _most_told, max(begins), turn, quick.more * turn // quick.turn)


def tally_behind(one, other):
    """The tally of the goings of two rows behind one another, by the tallies of both."""
    if one.under is None or other.under is None:
        return endless()
    slow, quick = one, other
    if len(one.again) == 0 or (len(other.again) > 0 and is_less(other.rate, one.rate)):
        slow, quick = other, one
    if len(quick.again) == 0:
        return least_of(_shifts(slow, steps_ahead(quick.under, quick.first)))
    if len(slow.again) == 0:
        return least_of(_shifts(quick, steps_ahead(slow.under, slow.first)))
    # What comes again begins behind its first step: in later turns there may be another count ahead of that one.
    begins = steps_ahead(slow.under, [*slow.first, slow.again[0]])
    start, told = slow.again[0]
    turned = steps_ahead(told, [*slow.again[1:], (start + slow.turn, told + slow.more)])
    rest = _around(least_of(_shifts(quick, turned)), slow.turn, slow.more)
    return least_of([rest, *_shifts(quick, begins)])


def _shifts(counts, begins):
    """The tally shifted to each of these pairs of a time and a count."""
    return [shifted(counts, told, time) for time, told in begins]


def _around(counts, turn, more):
    """The least of a tally and of itself turn by turn later and greater; it grows at least as much as that."""
    begin, common, grow = _end_around(counts, turn, more)
    coming = steps_until(counts, begin + common + 1)
    there, back = counts.under, counts.under + more
    found = []
    at = 0
    turned = 0
    while at < len(coming) or turned < len(found):
        times = [time for time, _ in coming[at:at + 1]]
        times.extend([time + turn for time, _ in found[turned:turned + 1]])
        time = min(times)
        if at < len(coming) and coming[at][0] == time:
            there = coming[at][1]
            at += 1
        if turned < len(found) and found[turned][0] + turn == time:
            back = found[turned][1] + more
            turned += 1
        if time > begin + common:
            break
        if len(found) == 0 or found[-1][1] < min(there, back):
            found.append((time, min(there, back)))
    first = [step for step in found if step[0] <= begin]
    return Tally(counts.under, first, found[len(first):], common, grow)


def _end_around(counts, turn, more):
    """From when on what `_around` tells comes again, after how long, and how much greater it is then."""
    if is_less((more, turn), counts.rate):
        start = steps_until(counts, begin_of(counts) + 1)[0][0]
        # What goes around from the first step on is no more than this.
        bound = Tally(counts.under, (), [(start, counts.under + more)], turn, more)
        return meeting(bound, counts), turn, more
    common = lcm(turn, counts.turn)
    return begin_of(counts) + common, common, more * common // turn


def is_at_least(one, other):
    """Whether the one tally is nowhere below the other one."""
    return least_of([one, other]) == other
