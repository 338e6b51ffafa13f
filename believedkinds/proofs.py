"""The house's own proof that there's none: how each kind of thing goes, one after another."""

from believedkinds.kinds import Kinds, column

BY_AXIOM = 0
BY_ATOM = 1


def lowest_broken(columns, kind):
    """The lowest axiom that's broken in a kind, or -1; columns has a pair of columns for each axiom."""
    for number, pair in enumerate(columns):
        if pair[0][kind] and not pair[1][kind]:
            return number
    return -1


def axiom_steps(axioms, atoms):
    """The steps by which all kinds go in which an axiom is broken."""
    columns = [(column(axiom[0], atoms), column(axiom[1], atoms)) for axiom in axioms]
    steps = []
    for kind in range(1 << len(atoms)):
        axiom = lowest_broken(columns, kind)
        if axiom >= 0:
            steps.append((kind, BY_AXIOM, axiom))
    return steps


def round_steps(kinds, there):
    """The steps of one round, for the kinds that are there at its beginning."""
    steps = []
    for kind in there:
        atom = kinds.lowest_unborne(kind, there)
        if atom >= 0:
            steps.append((kind, BY_ATOM, atom))
    return steps


def without(there, steps):
    """The kinds that are there yet when those of the steps are gone."""
    gone = [step[0] for step in steps]
    return [kind for kind in there if kind not in gone]


def house_steps(axioms, atoms):
    """All steps of the house's own proof."""
    kinds = Kinds(atoms)
    steps = axiom_steps(axioms, atoms)
    there = without(list(range(kinds.total)), steps)
    latest = round_steps(kinds, there)
    while len(latest) > 0:
        steps.extend(latest)
        there = without(there, latest)
        latest = round_steps(kinds, there)
    return steps


def proves_none(concept, atoms, steps):
    """Whether the concept holds in no kind that's there yet after right steps."""
    holding = column(concept, atoms)
    for kind in without(list(range(1 << len(atoms))), steps):
        if holding[kind]:
            return False
    return True
