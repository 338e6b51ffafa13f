"""What the things of a model have.

A model is a list of its things; a thing is a pair of its names, as a sum, and its ways, pairs of a role and a thing.
"""

from believedkinds.columns import column_by, has_bit
from believedkinds.concepts import NAME, SOME


def has_atom(thing, head, choice, parts):
    """Whether a thing has the atom of this head and this name or role; parts is the column of what's in the atom."""
    if head == NAME:
        return has_bit(thing[0], choice)
    reached = [parts[0][way[1]] for way in thing[1] if way[0] == choice]
    if head == SOME:
        return any(reached)
    return all(reached)


def thing_column(concept, things):
    """Of each thing whether it has the concept."""

    def tell_atom(place, parts):
        return [has_atom(thing, concept[place], concept[place + 1], parts) for thing in things]

    return column_by(concept, len(things), tell_atom)
