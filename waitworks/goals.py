"""Goals: what a face is to meet, and what shows that it does not."""

from waitworks.checks import wrong_arrival
from waitworks.contracts import is_contract
from waitworks.errors import InvalidGoals
from waitworks.faces import going_out
from waitworks.kinds import is_number, is_one_of, is_sequence, is_tuple_of
from waitworks.latest import first_late
from waitworks.rows import Row, first_above, from_going, later

BOUNDS = ("stay", "heap")


def check_goals(goals, inlets, outlets):
    """Refuse what are no goals for a module with these inlets and outlets."""
    if not is_sequence(goals) or len(goals) == 0:
        raise InvalidGoals(0)
    for at, goal in enumerate(goals):
        if not _is_goal(goal, inlets, outlets):
            raise InvalidGoals(at)


def _is_goal(goal, inlets, outlets):
    """Whether any value is a goal."""
    if is_tuple_of(goal, 3) and is_one_of(goal[0], ("late",)):
        return wrong_arrival(goal[1], inlets) is None and _are_rows(goal[2], len(outlets))
    if not is_tuple_of(goal, 4) or not is_one_of(goal[0], BOUNDS) or len(inlets) != 1:
        return False
    return is_one_of(goal[1], outlets) and is_contract(goal[2]) and is_number(goal[3])


def _are_rows(value, many):
    """Whether this is a sequence of so many rows."""
    return is_sequence(value) and len(value) == many and all([isinstance(row, Row) for row in value])


def first_refutation(one, goals):
    """The number of the first goal that a face does not meet, with an outlet and a going that show it; or None."""
    for at, goal in enumerate(goals):
        found = _missed(one, goal)
        if found is not None:
            return (at, *found)
    return None


def _missed(one, goal):
    """The pair of an outlet and a going by which a face does not meet a goal; None if it does."""
    if goal[0] == "late":
        found = first_late(one, goal[2], goal[1])
        return None if found is None else (found[1], found[0])
    kind, outlet, contract, most = goal
    # No arrivals that keep a contract stay longer than it does itself.
    bound = later(contract, 0, most) if kind == "stay" else from_going(contract, most)
    n = first_above(one.clock[one.outlets.index(outlet)], bound)
    return None if n is None else (outlet, n)


def refutes(one, goals, value):
    """Whether any value shows that a face does not meet a goal."""
    if not is_tuple_of(value, 3):
        return False
    at, outlet, n = value
    if not is_number(at) or at >= len(goals) or not is_one_of(outlet, one.outlets) or not is_number(n):
        return False
    goal = goals[at]
    number = one.outlets.index(outlet)
    if goal[0] == "late":
        wish = goal[2][number].time(n)
        return wish is None or going_out(one, goal[1], number, n) > wish
    kind, own, contract, most = goal
    if outlet != own:
        return False
    bound = contract.time(n) + most if kind == "stay" else contract.time(n + most)
    return going_out(one, [contract], number, n) > bound
