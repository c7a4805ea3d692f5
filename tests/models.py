"""What the tests hold the program against: the words of the document, done by hand for the first goings."""

from waitworks.errors import NeverGoes
from waitworks.faces import face
from waitworks.houses import House, Module
from waitworks.rows import Row
from waitworks.sums import behind, star

SHOP = Module(
    "shop", ["order"], ["done"], ["cut", "fold"],
    [("order", "cut", 0, 0), ("cut", "fold", 0, 3), ("fold", "done", 0, 2), ("fold", "cut", 1, 1)],
)
STREET = Module(
    "two", ["in"], ["out"], [],
    [("in", "a.order", 0, 0), ("a.done", "b.order", 0, 1), ("b.done", "out", 0, 0)],
    [("a", "shop"), ("b", "shop")],
)
HOUSE = House([SHOP, STREET])

# One of each kind of any values, also objects of the package.
ANY_VALUES = (
    None, True, False, -1, 0, 1, 10 ** 15, "", "a", "shop", "order", "Shop", "a.b", [], (), [None], (None,), [[]], ((),),
    [0], (0,), ["a"], ("a",), (("a", 0),), [("a", "b", 0, 0)], ((("a",),),), Row((), (0,)), SHOP, HOUSE,
    [Row((), (0,))], (Row((), (0,)), 1), (1, 2, 3), [True], (True, False), ("a", True), ("cut", 0, 0), (("cut", 0, 0),),
)


def things(row, many):
    """The first things of a row."""
    return [row.time(n) for n in range(many)]


def some_row(rng, first=4, again=4, low=0, high=12, more=6, nothing=0.0):
    """A row by chance."""
    many = rng.randint(0, first)
    turn = rng.randint(1, again)
    times = sorted([rng.randint(low, high) for _ in range(many + turn)])
    if rng.random() < nothing:
        times[:rng.randint(0, many)] = []
        times = [None] * (many + turn - len(times)) + times
    grow = times[-1] - times[many] + rng.randint(0, more)
    return Row(times[:many], times[many:], grow)


def flat_by_hand(house, name):
    """The places and the links of a module with all that it calls."""
    module = house[name]
    places = list(module.inlets + module.outlets + module.stations)
    links = list(module.links)
    for label, called in module.calls:
        inner, ways = flat_by_hand(house, called)
        places += [label + "." + place for place in inner]
        links += [(label + "." + one[0], label + "." + one[1], one[2], one[3]) for one in ways]
    return tuple(sorted(places)), tuple(sorted(links))


def walk(house, name, arrivals, many, lates=()):
    """The first times of all places, one going after another."""
    places, links = flat_by_hand(house, name)
    given = dict(zip(house[name].inlets, arrivals))
    times = {place: [] for place in places}
    held = {}
    for place, n, time in lates:
        held[place, n] = max(time, held.get((place, n), 0))
    for n in range(many):
        for place in places:
            time = given[place].time(n) if place in given else 0
            if n > 0:
                time = max(time, times[place][n - 1])
            times[place].append(max(time, held.get((place, n), 0)))
        for _ in places:
            for first, then, marks, lasts in links:
                if n >= marks:
                    times[then][n] = max(times[then][n], times[first][n - marks] + lasts)
    return times


def some_module(rng, name, stations=4, links=7, inlets=2, outlets=2, lasts=5, marks=2, ahead=()):
    """A module by chance, that may call modules ahead."""
    ins = ["i", "j", "k"][:rng.randint(0, inlets)]
    outs = ["o", "p", "q"][:rng.randint(0, outlets)]
    at = ["s", "t", "u", "v", "w"][:rng.randint(0, stations)]
    calls = [("x", rng.choice(ahead))] if ahead and rng.random() < 0.7 else []
    if calls and rng.random() < 0.5:
        calls.append(("y", rng.choice(ahead)))
    begins = ins + at + [label + "." + end for label, called in calls for end in called.outlets]
    ends = at + outs + [label + "." + end for label, called in calls for end in called.inlets]
    ways = []
    if begins and ends:
        for _ in range(rng.randint(0, links)):
            ways.append((rng.choice(begins), rng.choice(ends), rng.randint(0, marks), rng.randint(0, lasts)))
    return Module(name, ins, outs, at, ways, [(label, called.name) for label, called in calls])


def some_house(rng, modules=2, **limits):
    """A house by chance, in which everything goes; its last module is called m."""
    while True:
        try:
            ahead = [some_module(rng, "abcdef"[at], **limits) for at in range(rng.randint(0, modules - 1))]
            return House(ahead + [some_module(rng, "m", ahead=ahead, **limits)])
        except NeverGoes:
            pass


def some_arrivals(rng, module, **limits):
    """Arrivals by chance for all inlets."""
    return [some_row(rng, **limits) for _ in module.inlets]


def rings_by_hand(links):
    """All rings of links, each with its least place ahead."""
    found = []

    def go(way):
        first = way[0][0]
        if way[-1][1] == first:
            found.append(tuple(way))
            return
        for link in links:
            if link[0] == way[-1][1] and link[0] > first and link[0] not in [one[0] for one in way]:
                go(way + [link])

    for link in links:
        go([link])
    return found


def feeders_by_hand(links, place):
    """The places from which a way leads to this one, and itself."""
    fed = {place}
    while True:
        more = {first for first, then, _, _ in links if then in fed} - fed
        if not more:
            return fed
        fed |= more


def busy_house(rng, inlets=("i", "j"), outlets=("o", "p"), stations=3, more=4, lasts=5, marks=2, name="m", ahead=(), loose=0.0):
    """A house by chance whose last module has these inlets and outlets, and links from and to (nearly) all of its places."""
    inlets, outlets, at = list(inlets), list(outlets), list("stuvw"[:stations])
    while True:
        begins, ends = inlets + at, at + outlets
        if not begins or not ends:
            return House([*ahead, Module(name, inlets, outlets, at, [])])
        pairs = [(begin, rng.choice(ends)) for begin in begins] + [(rng.choice(begins), end) for end in ends]
        pairs += [(rng.choice(begins), rng.choice(ends)) for _ in range(more)]
        pairs = [pair for pair in pairs if rng.random() >= loose]
        ways = [(begin, end, rng.randint(0, marks), rng.randint(0, lasts)) for begin, end in pairs]
        try:
            return House([*ahead, Module(name, inlets, outlets, at, ways)])
        except NeverGoes:
            pass


def some_face(rng, **limits):
    """A face by chance."""
    return face(busy_house(rng, **limits), limits.get("name", "m"))


def sums_by_hand(one, other, many):
    """The first greatest sums of a thing of the one row at i and a thing of the other one at n - i."""
    one, other = things(one, many), things(other, many)
    found = []
    for n in range(many):
        sums = [one[i] + other[n - i] for i in range(n + 1) if one[i] is not None and other[n - i] is not None]
        found.append(max(sums, default=None))
    return found


def out_by_hand(told, arrivals, many):
    """The first goings of all outlets of a face, by its words."""
    found = []
    for rows, clock in zip(told.rows, told.clock):
        led = [sums_by_hand(row, came, many) for row, came in zip(rows, arrivals)]
        found.append([max([clock.time(n)] + [some[n] for some in led if some[n] is not None]) for n in range(many)])
    return found


def some_contract(rng, low=0):
    """A contract by chance."""
    many = rng.randint(1, 4)
    times = sorted([rng.randint(low, 9) for _ in range(many)])
    return star(Row([None] * rng.randint(1, 3), times, times[-1] - times[0] + rng.randint(0, 5)))


def kept_arrivals(rng, contract, many=12):
    """Arrivals by chance that keep a contract: what it makes of some first goings."""
    first = sorted([rng.randint(0, 20) for _ in range(rng.randint(1, many))])
    return behind(contract, Row(first, [first[-1]]))


def error_of(case, kind, ask, *given):
    """The error of this kind that a call raises."""
    with case.assertRaises(kind) as caught:
        ask(*given)
    case.assertIs(type(caught.exception), kind)
    return caught.exception
