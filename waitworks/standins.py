"""Stand-ins: which faces do the same for all arrivals that keep a contract."""

from waitworks.contracts import check_contract, keeps
from waitworks.faces import Face
from waitworks.partings import first_unlike, parting_holds, so_late
from waitworks.partners import partner
from waitworks.rows import later
from waitworks.sums import behind, greatest


def parting_under(one, other, contract):
    """Some arrivals that keep the contract, an outlet and a number, so that this going is another one; or None."""
    check_contract(contract)
    for at, outlet in enumerate(one.outlets):
        early, led = _under(one, at, contract)
        other_early, other_led = _under(other, at, contract)
        n = first_unlike(early, other_early)
        if n is not None:
            return ((contract,), outlet, n)
        n = first_unlike(led, other_led)
        if n is not None:
            # If the contract itself comes late enough, the clocks tell nothing any more.
            late = so_late(early.time(n), led.time(n), other_led.time(n))
            return ((later(contract, 0, late),), outlet, n)
    return None


def _under(face, at, contract):
    """How an outlet goes if the contract itself arrives, and how without the clock."""
    led = behind(face.rows[at][0], contract)
    return greatest([face.clock[at], led]), led


def alike_under(one, other, contract):
    """Whether all outlets go alike by both faces, for all arrivals that keep the contract."""
    return parting_under(one, other, contract) is None


def parting_under_holds(one, other, contract, value):
    """Whether any value is a triple, with arrivals that keep the contract, by which a going is another one."""
    check_contract(contract)
    return parting_holds(one, other, value) and keeps(value[0][0], contract)


def stand_in(face, contract):
    """The greatest face that does the same for all arrivals that keep the contract."""
    check_contract(contract)
    rows = []
    clock = []
    for at in range(len(face.outlets)):
        early, led = _under(face, at, contract)
        rows.append([partner(led, contract)])
        clock.append(early)
    return Face(face.inlets, face.outlets, rows, clock)
