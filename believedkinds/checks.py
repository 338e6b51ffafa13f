"""The checker: goes through a proof of either sort, and knows nothing of how it was found."""

from believedkinds.columns import is_broken, lowest_broken
from believedkinds.kinds import BY_ATOM, BY_AXIOM, Kinds, axiom_columns, lowest_holding
from believedkinds.things import thing_column

RIGHT = 0

# What's wrong with a proof that there's none.
NOT_THERE = 1
NO_REASON = 2
STILL_HOLDS = 3

# What's wrong with a proof that there's one.
NO_THINGS = 1
STRAY_WAY = 2
BREAKS_AXIOM = 3
NOT_THE_FIRST = 4

ROLES = 2


def read_steps(numbers):
    """The steps that the numbers are, three for each; None if they aren't just steps."""
    if len(numbers) % 3 != 0:
        return None
    steps = [tuple(numbers[place:place + 3]) for place in range(0, len(numbers), 3)]
    for step in steps:
        if step[1] > BY_ATOM:
            return None
    return steps


def is_reason(kinds, pairs, there, step):
    """Whether the reason of a step is so; pairs has a pair of columns for each axiom."""
    kind = step[0]
    which = step[2]
    if step[1] == BY_AXIOM:
        return which < len(pairs) and is_broken(pairs[which], kind)
    return which < len(kinds.atoms) and kinds.is_unborne(kind, which, there)


def check_none(axioms, atoms, concept, steps):
    """What's wrong first with a proof that there's none, or that it's right."""
    kinds = Kinds(atoms)
    pairs = axiom_columns(axioms, atoms)
    there = list(range(kinds.total))
    for number, step in enumerate(steps):
        if step[0] not in there:
            return [NOT_THERE, number]
        if not is_reason(kinds, pairs, there, step):
            return [NO_REASON, number]
        there.remove(step[0])
    held = lowest_holding(concept, atoms, there)
    if held >= 0:
        return [STILL_HOLDS, held]
    return [RIGHT]


def read_thing(numbers):
    """The thing that the numbers are, with its ways as pairs; None if they aren't just a thing."""
    # With its names alone it has one number, and each way brings two: an even count lacks the names or leaves one over.
    if len(numbers) % 2 == 0:
        return None
    ways = [(numbers[place], numbers[place + 1]) for place in range(1, len(numbers), 2)]
    return (numbers[0], ways)


def read_things(lists):
    """The things that the lists are, one for each; None if one of them isn't just a thing."""
    things = [read_thing(numbers) for numbers in lists]
    if None in things:
        return None
    return things


def lowest_stray(things):
    """The lowest thing from which a way leads by no role or to no thing, or -1."""
    for number, thing in enumerate(things):
        for way in thing[1]:
            if way[0] >= ROLES or way[1] >= len(things):
                return number
    return -1


def check_model(axioms, concept, things):
    """What's wrong first with a proof that there's one, or that it's right."""
    if len(things) == 0:
        return [NO_THINGS]
    stray = lowest_stray(things)
    if stray >= 0:
        return [STRAY_WAY, stray]
    pairs = [(thing_column(axiom[0], things), thing_column(axiom[1], things)) for axiom in axioms]
    for number in range(len(things)):
        axiom = lowest_broken(pairs, number)
        if axiom >= 0:
            return [BREAKS_AXIOM, number, axiom]
    if not thing_column(concept, things)[0]:
        return [NOT_THE_FIRST]
    return [RIGHT]
