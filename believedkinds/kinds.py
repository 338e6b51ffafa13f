"""Kinds of things: which atoms hold in them, and how they bear each other's atoms out."""

from believedkinds.columns import column_by, has_bit
from believedkinds.concepts import ALL, NAME, SOME, inside, part_at

# The two reasons for which a kind goes: an axiom that's broken in it, or an atom that isn't borne out.
BY_AXIOM = 0
BY_ATOM = 1


def column(concept, atoms):
    """Of each kind by these atoms, rising, whether the concept holds in it."""
    total = 1 << len(atoms)

    def tell_atom(place, parts):
        k = atoms.index(part_at(concept, place))
        return [has_bit(kind, k) for kind in range(total)]

    return column_by(concept, total, tell_atom)


def inside_column(atom, atoms):
    """Of each kind whether what's in the atom holds in it; of a name, in which there's nothing, no kind."""
    if atom[0] == NAME:
        return []
    return column(inside(atom), atoms)


def axiom_columns(axioms, atoms):
    """Of each axiom the columns of its first and its second concept."""
    return [(column(axiom[0], atoms), column(axiom[1], atoms)) for axiom in axioms]


def lowest_holding(concept, atoms, there):
    """The lowest of the kinds that are there, which must be rising, in which the concept holds, or -1."""
    holding = column(concept, atoms)
    for kind in there:
        if holding[kind]:
            return kind
    return -1


class Kinds:
    """All kinds by some atoms, which must be in the order in which they count."""

    def __init__(self, atoms):
        self.atoms = atoms
        self.total = 1 << len(atoms)
        self.insides = [inside_column(atom, atoms) for atom in atoms]

    def fits(self, kind, other, role):
        """Whether it fits from a kind to the other one by a role."""
        for k, atom in enumerate(self.atoms):
            if atom[0] != NAME and atom[1] == role:
                held = has_bit(kind, k)
                if atom[0] == SOME and not held and self.insides[k][other]:
                    return False
                if atom[0] == ALL and held and not self.insides[k][other]:
                    return False
        return True

    def is_due(self, kind, k):
        """Whether atom k needs a kind that bears it out: a 6 that holds, or a 7 that doesn't."""
        head = self.atoms[k][0]
        if head == SOME:
            return has_bit(kind, k)
        return head == ALL and not has_bit(kind, k)

    def bears_out(self, other, kind, k):
        """Whether the other kind bears out atom k, which is due in a kind."""
        atom = self.atoms[k]
        return self.insides[k][other] == (atom[0] == SOME) and self.fits(kind, other, atom[1])

    def lowest_bearing(self, kind, k, there):
        """The lowest of the kinds that are there, rising, that bears out atom k, which is due in a kind, or -1."""
        for other in there:
            if self.bears_out(other, kind, k):
                return other
        return -1

    def is_unborne(self, kind, k, there):
        """Whether atom k is due in a kind and none of those there bears it out."""
        return self.is_due(kind, k) and self.lowest_bearing(kind, k, there) < 0

    def lowest_unborne(self, kind, there):
        """The lowest atom that's due in a kind and that none of those there bears out, or -1."""
        for k in range(len(self.atoms)):
            if self.is_unborne(kind, k, there):
                return k
        return -1
