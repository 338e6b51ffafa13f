"""The house's own proof that there's none: how each kind of thing goes, one after another."""

from believedkinds.columns import lowest_broken
from believedkinds.kinds import BY_ATOM, BY_AXIOM, Kinds, axiom_columns


def axiom_steps(axioms, atoms):
    """The steps by which all kinds go in which an axiom is broken."""
    pairs = axiom_columns(axioms, atoms)
    steps = []
    for kind in range(1 << len(atoms)):
        axiom = lowest_broken(pairs, kind)
        if axiom >= 0:
            steps.append((kind, BY_AXIOM, axiom))
    return steps


def round_steps(kinds, there):
    """The steps of one round, for the kinds that are there at its beginning."""
    steps = []
    for kind in there:
        atom = kinds.lowest_unborne(kind, there)
        if atom >= 0:
            steps.append((kind, BY_ATOM, atom))
    return steps


def without(there, steps):
    """The kinds that are there yet when those of the steps are gone."""
    gone = [step[0] for step in steps]
    return [kind for kind in there if kind not in gone]


def house_steps(axioms, atoms):
    """All steps of the house's own proof."""
    kinds = Kinds(atoms)
    steps = axiom_steps(axioms, atoms)
    there = without(list(range(kinds.total)), steps)
    latest = round_steps(kinds, there)
    while len(latest) > 0:
        steps.extend(latest)
        there = without(there, latest)
        latest = round_steps(kinds, there)
    return steps


def left_after(steps, atoms):
    """The kinds that no step takes away, rising; after the house's own proof these are the ones that can be there."""
    return without(list(range(1 << len(atoms))), steps)
