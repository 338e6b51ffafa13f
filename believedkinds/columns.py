"""Columns: of each of some things, or kinds of things, that are numbered from 0, whether a concept holds there."""

from believedkinds.concepts import BOTH, EITHER, EVERYTHING, NOT, PARTS, head_places, is_atom


def has_bit(number, k):
    """Whether bit k, of worth 2 to the k, is in a number."""
    return (number >> k) & 1 == 1


def joined(head, parts, which):
    """Whether a concept that's no atom holds in one of them, by the columns of its parts."""
    if head == BOTH:
        return parts[0][which] and parts[1][which]
    if head == EITHER:
        return parts[0][which] or parts[1][which]
    if head == NOT:
        return not parts[0][which]
    return head == EVERYTHING


def column_by(concept, total, tell_atom):
    """A concept's column; tell_atom(place, parts) tells that of the atom at a place, by the columns of its parts."""
    done = []
    # From right to left a concept's parts come before itself: so however deep it is, a loop will do.
    for place in reversed(head_places(concept)):
        head = concept[place]
        parts = []
        while len(parts) < PARTS[head]:
            parts.append(done.pop())
        if is_atom(head):
            done.append(tell_atom(place, parts))
        else:
            done.append([joined(head, parts, which) for which in range(total)])
    return done[0]


def is_broken(pair, which):
    """Whether an axiom is broken in one of them, by the columns of its first and its second concept."""
    return pair[0][which] and not pair[1][which]


def lowest_broken(pairs, which):
    """The lowest axiom that's broken in one of them, or -1; pairs has a pair of columns for each axiom."""
    for axiom, pair in enumerate(pairs):
        if is_broken(pair, which):
            return axiom
    return -1
