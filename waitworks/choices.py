"""Choices: which offers of a menu a module is to call, so that it meets its goals for the least price."""

from waitworks.goals import check_goals, first_refutation, refutes
from waitworks.kinds import is_tuple_of
from waitworks.menus import Menu
from waitworks.partings import never_later


def choices(house, name, menu):
    """All choices, ascending."""
    return tuple(Menu(house, name, menu).options)


def price(house, name, menu, choice):
    """What a choice costs."""
    return _menu_with(house, name, menu, choice).price(choice)


def _menu_with(house, name, menu, choice):
    """The menu; refuse what is no choice of it."""
    told = Menu(house, name, menu)
    told.check(choice)
    return told


def chosen(house, name, menu, choice):
    """The house in which the module calls what is chosen."""
    return _menu_with(house, name, menu, choice).house_of(choice)


def chosen_face(house, name, menu, choice):
    """The face of the module that calls what is chosen."""
    return _menu_with(house, name, menu, choice).face_of(choice)


def is_faster(one, other):
    """Whether each row and clock of the one face is nowhere above that of the other one."""
    return never_later(one, other)


def meets(one, goals):
    """Whether a face meets all goals."""
    check_goals(goals, one.inlets, one.outlets)
    return first_refutation(one, goals) is None


def _menu_for(house, name, menu, goals):
    """The menu; refuse what are no goals for its module."""
    told = Menu(house, name, menu)
    check_goals(goals, house[name].inlets, house[name].outlets)
    return told


def cheapest(house, name, menu, goals):
    """The least price of choices that meet all goals, and all such choices; None if none does."""
    told = _menu_for(house, name, menu, goals)
    least = None
    found = []
    for cost, choice in sorted([(told.price(choice), choice) for choice in told.options]):
        if least is not None and cost > least:
            break
        if first_refutation(told.face_of(choice), goals) is None:
            least = cost
            found.append(choice)
    return None if least is None else (least, tuple(found))


def fastest(house, name, menu, price):
    """The choices below a price that are as fast as each one below it that is as fast as they are."""
    return tuple(_fastest_below(Menu(house, name, menu), price))


def _fastest_below(told, most):
    """The choices below a price that are as fast as each one below it that is as fast as they are."""
    below = told.below(most)
    found = []
    for one in below:
        faster = [other for other in below if told.is_as_fast(other, one)]
        if all([told.is_as_fast(one, other) for other in faster]):
            found.append(one)
    return found


def refutation(house, name, menu, goals, choice):
    """Some triple that shows that a choice does not meet a goal; None if it meets all."""
    told = _menu_with(house, name, menu, choice)
    check_goals(goals, house[name].inlets, house[name].outlets)
    return first_refutation(told.face_of(choice), goals)


def refutation_holds(house, name, menu, goals, choice, value):
    """Whether any value is a triple that shows that a choice does not meet a goal."""
    told = _menu_with(house, name, menu, choice)
    check_goals(goals, house[name].inlets, house[name].outlets)
    return refutes(told.face_of(choice), goals, value)


def bar(house, name, menu, goals, price):
    """Some bar below a price; None if some choice below it meets all goals."""
    told = _menu_for(house, name, menu, goals)
    found = []
    # What refutes a choice refutes all to which it is as fast.
    for choice in _fastest_below(told, price):
        why = first_refutation(told.face_of(choice), goals)
        if why is None:
            return None
        found.append((choice, why))
    return tuple(found)


def bar_holds(house, name, menu, goals, price, value):
    """Whether any value is a bar below a price."""
    told = _menu_for(house, name, menu, goals)
    if not isinstance(value, tuple) or not all([is_tuple_of(pair, 2) and told.has(pair[0]) for pair in value]):
        return False
    barred = list({choice: True for choice, _ in value})
    for choice in told.below(price):
        if not any([told.is_as_fast(one, choice) for one in barred]):
            return False
    faces = {choice: told.face_of(choice) for choice in barred}
    return all([refutes(faces[choice], goals, why) for choice, why in value])
