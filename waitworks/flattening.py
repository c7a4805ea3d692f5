"""Modules seen flat: with the places and links of all that they call."""


def flattened(module, flats):
    """The pair of the ascending places and links of a module; `flats` tells them for what it calls."""
    places = [*module.inlets, *module.outlets, *module.stations]
    links = list(module.links)
    for label, name in module.calls:
        inner, ways = flats[name]
        places.extend([f"{label}.{place}" for place in inner])
        links.extend([(f"{label}.{first}", f"{label}.{then}", marks, lasts) for first, then, marks, lasts in ways])
    return (tuple(sorted(places)), tuple(sorted(links)))
