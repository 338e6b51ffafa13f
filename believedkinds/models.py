"""The told model of a concept: a thing for each kind that one comes to, as the things of a model are told."""

from believedkinds.columns import has_bit
from believedkinds.concepts import NAME
from believedkinds.kinds import Kinds


def names_of(kind, atoms):
    """The names that hold in a kind, as a sum."""
    names = 0
    for k, atom in enumerate(atoms):
        if atom[0] == NAME and has_bit(kind, k):
            names += 1 << atom[1]
    return names


def kind_ways(kinds, kind, there):
    """The ways from a thing of a kind, each once: the role, and the kind of the thing to which it leads."""
    ways = []
    for k, atom in enumerate(kinds.atoms):
        if kinds.is_due(kind, k):
            way = (atom[1], kinds.lowest_bearing(kind, k, there))
            if way not in ways:
                ways.append(way)
    return ways


def told_model(atoms, there, first):
    """The told model, whose first thing is of the kind first, by the kinds that can be there."""
    kinds = Kinds(atoms)
    order = [first]
    leading = []
    while len(leading) < len(order):
        ways = kind_ways(kinds, order[len(leading)], there)
        for way in ways:
            if way[1] not in order:
                order.append(way[1])
        leading.append(ways)
    things = []
    for kind, ways in zip(order, leading):
        things.append((names_of(kind, atoms), [(way[0], order.index(way[1])) for way in ways]))
    return things
