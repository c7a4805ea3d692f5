"""Steps: what is told from a time on until the next step, some first ones and then turns that come again for ever.

Objects with steps have the attributes of a tally: under, first, again, turn, more; None tells endless.
"""


def least_form(first, again, turn, more):
    """The same steps with as few that come again as possible, and then as few first ones."""
    many = len(again)
    for part in range(1, many):
        if many % part == 0 and turn * part % many == 0 and more * part % many == 0:
            lasts, grow = turn * part // many, more * part // many
            if list(again[part:]) == _moved(again[:many - part], lasts, grow):
                return _shortest_first(first, again[:part], lasts, grow)
    return _shortest_first(first, again, turn, more)


def _moved(steps, lasts, grow):
    """These steps so much later, and telling so much more."""
    return [(time + lasts, told + grow) for time, told in steps]


def _shortest_first(first, again, turn, more):
    """The same steps with as few first ones as possible."""
    whole = [*first, *again]
    begin = len(first)
    while begin > 0 and whole[begin - 1][1] is not None and len(again) > 0:
        if _moved([whole[begin - 1]], turn, more) != [whole[begin - 1 + len(again)]]:
            break
        begin -= 1
    return tuple(whole[:begin]), tuple(whole[begin:begin + len(again)]), turn, more


def told_by(steps, time):
    """What is told at a time."""
    if len(steps.again) > 0 and time >= steps.again[0][0]:
        turns, rest = divmod(time - steps.again[0][0], steps.turn)
        at = _last_by(steps.again, steps.again[0][0] + rest)
        return steps.again[at][1] + turns * steps.more
    at = _last_by(steps.first, time)
    return steps.under if at < 0 else steps.first[at][1]


def _last_by(steps, time):
    """The number of the last step at a time or ahead of it, -1 if there is none."""
    low, high = 0, len(steps)
    while low < high:
        middle = (low + high) // 2
        if steps[middle][0] <= time:
            low = middle + 1
        else:
            high = middle
    return low - 1


def steps_until(steps, end):
    """All steps ahead of a time."""
    found = [step for step in steps.first if step[0] < end]
    if len(steps.again) > 0 and end > steps.again[0][0]:
        turns = (end - steps.again[0][0]) // steps.turn + 1
        for at in range(turns):
            found.extend(_moved(steps.again, at * steps.turn, at * steps.more))
    return [step for step in found if step[0] < end]


def begin_of(steps):
    """A time from which on all comes again, or stays (of steps that there are)."""
    return steps.again[0][0] if len(steps.again) > 0 else steps.first[-1][0]


def steps_ahead(under, steps):
    """For all steps the pair of their time and what is told until then."""
    told = [under, *[there for _, there in steps]]
    return [(time, last) for (time, _), last in zip(steps, told)]


def meeting(slow, quick):
    """A time from which on what grows less is nowhere above what grows more."""
    begin, start = begin_of(slow), begin_of(quick)
    # Behind its beginning the slow one is at most on a line, and the quick one at least on another one.
    most = max([slow.turn * told - slow.more * (time - begin) for time, told in slow.again])
    ends = [*[time for time, _ in quick.again[1:]], start + quick.turn]
    lows = [quick.turn * told - quick.more * (end - 1 - start) for end, (_, told) in zip(ends, quick.again)]
    gap = (most - slow.more * begin) * quick.turn - (min(lows) - quick.more * start) * slow.turn
    return max(begin, start, -(-gap // (quick.more * slow.turn - slow.more * quick.turn)))


def told_together(all_steps, end):
    """What all of these tell, one beside the other: at first, and the pairs of a time ahead of the end and this."""
    told = [steps.under for steps in all_steps]
    changes = {}
    for at, steps in enumerate(all_steps):
        for time, there in steps_until(steps, end):
            changes.setdefault(time, []).append((at, there))
    start = tuple(told)
    found = []
    for time in sorted(list(changes)):
        for at, there in changes[time]:
            told[at] = there
        found.append((time, tuple(told)))
    return start, found


def changes_of(start, told):
    """Those of these pairs of a time and what is told at which something else is told than ahead."""
    found = []
    last = start
    for time, there in told:
        if there != last:
            found.append((time, there))
        last = there
    return found
