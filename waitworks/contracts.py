"""Contracts: how far goings are at least apart, and how long things stay then, and how many are within."""

from math import lcm

from waitworks.errors import InvalidContract, NoPlace
from waitworks.kinds import is_less, is_one_of
from waitworks.partners import greatest_difference, partner
from waitworks.rows import Row, first_above, is_at_most, later
from waitworks.sums import behind, greatest, least, star


def is_contract(value):
    """Whether any value is a contract."""
    return isinstance(value, Row) and value.time(0) == 0 and _keeps(value, value)


def _keeps(row, contract):
    """Whether the goings of a row are always so far apart."""
    return is_at_most(row, partner(row, contract))


def check_contract(contract):
    """Refuse what is no contract."""
    if not is_contract(contract):
        raise InvalidContract()


def contract_of(row):
    """The least contract that is nowhere below a row with nothing or 0 at 0."""
    return star(row)


def keeps(row, contract):
    """Whether arrivals keep a contract."""
    check_contract(contract)
    return _keeps(row, contract)


def _clock_of(face, outlet):
    """The clock of an outlet."""
    return face.clock[_number_of_outlet(face, outlet)]


def _number_of_outlet(face, outlet):
    """The number of the outlet with a name."""
    if not is_one_of(outlet, face.outlets):
        raise NoPlace(outlet)
    return face.outlets.index(outlet)


def stay(face, outlet, contract):
    """How much later than its arrival an outlet can go, if the arrivals keep the contract; None without a bound."""
    check_contract(contract)
    # No arrivals that keep it stay longer than the contract itself does.
    return greatest_difference(_clock_of(face, outlet), contract)


def stay_going(face, outlet, contract):
    """The first going that stays longest if the contract itself arrives; None without a bound."""
    longest = stay(face, outlet, contract)
    if longest is None:
        return None
    return first_above(_clock_of(face, outlet), later(contract, 0, longest - 1))


def heap(face, outlet, contract):
    """By how many goings an outlet can be behind the arrivals that keep the contract; None without a bound."""
    check_contract(contract)
    clock = _clock_of(face, outlet)
    if is_less(contract.rate, clock.rate):
        return None
    # Farther out than this the clock is nearer to the contract, or as near as a turn of both ahead.
    far = max(len(clock.first), len(contract.first)) + lcm(len(clock.again), len(contract.again))
    counts = [contract.count(clock.time(n) - 1) for n in range(far)]
    if None in counts:
        return None
    return max([0, *[count - n for n, count in enumerate(counts)]])


def contract_for_stay(face, outlet, most):
    """The least contract by which nothing stays longer than this; None if none does."""
    wanted = later(_clock_of(face, outlet), 0, -most)
    return None if wanted.time(0) > 0 else star(wanted)


def contract_for_heap(face, outlet, most):
    """The least contract by which no more than so many are within; None if none does."""
    wanted = later(_clock_of(face, outlet), most, 0)
    return None if most == 0 and wanted.time(0) > 0 else star(wanted)


def contract_out(face, outlet, contract):
    """The greatest contract that the goings of an outlet keep, for all arrivals that keep this one."""
    check_contract(contract)
    at = _number_of_outlet(face, outlet)
    clock = face.clock[at]
    led = behind(face.rows[at][0], contract)
    bounds = [partner(greatest([clock, led]), clock), partner(led, led)]
    return least([bound for bound in bounds if bound is not None])
