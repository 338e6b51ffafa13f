"""Kinds of things: which atoms hold in them, and how they bear each other's atoms out."""

from believedkinds.concepts import ALL, BOTH, EITHER, EVERYTHING, NAME, NOT, PARTS, SOME
from believedkinds.concepts import head_places, inside, is_atom, part_at


def atom_holds(k, kind):
    """Whether atom k holds in a kind."""
    return (kind >> k) & 1 == 1


def joined(head, parts, kind):
    """Whether a concept that's no atom holds in a kind, by the columns of its parts."""
    if head == BOTH:
        return parts[0][kind] and parts[1][kind]
    if head == EITHER:
        return parts[0][kind] or parts[1][kind]
    if head == NOT:
        return not parts[0][kind]
    return head == EVERYTHING


def column(concept, atoms):
    """Of each kind by these atoms, rising, whether the concept holds in it."""
    kinds = list(range(1 << len(atoms)))
    done = []
    # From right to left a concept's parts come before itself: so however deep it is, a loop will do.
    for place in reversed(head_places(concept)):
        head = concept[place]
        parts = []
        while len(parts) < PARTS[head]:
            parts.append(done.pop())
        if is_atom(head):
            k = atoms.index(part_at(concept, place))
            done.append([atom_holds(k, kind) for kind in kinds])
        else:
            done.append([joined(head, parts, kind) for kind in kinds])
    return done[0]


def inside_column(atom, atoms):
    """Of each kind whether what's in the atom holds in it; of a name, in which there's nothing, no kind."""
    if atom[0] == NAME:
        return []
    return column(inside(atom), atoms)


class Kinds:
    """All kinds by some atoms, which must be in the order in which they count."""

    def __init__(self, atoms):
        self.atoms = atoms
        self.total = 1 << len(atoms)
        self.insides = [inside_column(atom, atoms) for atom in atoms]

    def fits(self, kind, other, role):
        """Whether it fits from a kind to the other one by a role."""
        for k, atom in enumerate(self.atoms):
            if atom[0] != NAME and atom[1] == role:
                held = atom_holds(k, kind)
                if atom[0] == SOME and not held and self.insides[k][other]:
                    return False
                if atom[0] == ALL and held and not self.insides[k][other]:
                    return False
        return True

    def is_due(self, kind, k):
        """Whether atom k needs a kind that bears it out: a 6 that holds, or a 7 that doesn't."""
        head = self.atoms[k][0]
        if head == SOME:
            return atom_holds(k, kind)
        return head == ALL and not atom_holds(k, kind)

    def bears_out(self, other, kind, k):
        """Whether the other kind bears out atom k, which is due in a kind."""
        atom = self.atoms[k]
        return self.insides[k][other] == (atom[0] == SOME) and self.fits(kind, other, atom[1])

    def is_borne_out(self, kind, k, there):
        """Whether one of the kinds that are there bears out atom k, which is due in a kind."""
        for other in there:
            if self.bears_out(other, kind, k):
                return True
        return False

    def lowest_unborne(self, kind, there):
        """The lowest atom that's due in a kind and that none of those there bears out, or -1."""
        for k in range(len(self.atoms)):
            if self.is_due(kind, k) and not self.is_borne_out(kind, k, there):
                return k
        return -1
