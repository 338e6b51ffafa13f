"""What the tests share: how calls are written and answers taken apart, and a second reckoning of the document."""

from believedkinds.house import answers

ROLES = (0, 1)


def begins():
    return [0, 0, 0]


def line(*numbers):
    return [1, 0, 1, len(numbers), *numbers]


def drop(which):
    return [2, 1, which, 0]


def none(*numbers):
    return [3, 0, 1, len(numbers), *numbers]


def ask(*calls):
    """The answer of each call, when they are handed in as one list."""
    assert 1 <= len(calls) <= 60, "the document allows 1 to 60 calls"
    assert sum(call[0] == 3 for call in calls) <= 12, "the document allows 12 calls of none"
    assert all(len(call) <= 104 for call in calls), "the document allows 100 numbers in a list"
    handed = [number for call in calls for number in call]
    return taken_apart(answers(handed), len(calls))


def taken_apart(answered, count):
    """A list of answers for each call; complains if there are not just so many."""
    found = []
    place = 0
    while place < len(answered):
        width = answered[place]
        found.append(answered[place + 1:place + 1 + width])
        assert len(found[-1]) == width, "an answer breaks off"
        place += 1 + width
    assert len(found) == count, "not one answer for each call"
    return found


def proof(*steps):
    """The answer of none with these steps."""
    return [len(steps), *[number for step in steps for number in step]]


# A second reckoning, by the document's words alone and in another form (nested tuples, recursion, sets).

def parsed(numbers):
    """The concept at the beginning of the numbers, nested, and what's behind it; ValueError if there's none."""
    if not numbers:
        raise ValueError("breaks off")
    head, rest = numbers[0], numbers[1:]
    if head in (0, 1):
        return (head,), rest
    if head in (2, 6, 7):
        if not rest or rest[0] > (3 if head == 2 else 1):
            raise ValueError("no such name or role")
        if head == 2:
            return (2, rest[0]), rest[1:]
        part, behind = parsed(rest[1:])
        return (head, rest[0], part), behind
    if head in (3, 4):
        left, behind = parsed(rest)
        right, behind = parsed(behind)
        return (head, left, right), behind
    if head == 5:
        part, behind = parsed(rest)
        return (5, part), behind
    raise ValueError("no such concept")


def parsed_row(numbers, count):
    """The concepts, if the numbers are just so many; else None."""
    row = []
    try:
        for _ in range(count):
            concept, numbers = parsed(numbers)
            row.append(concept)
    except ValueError:
        return None
    return None if numbers else row


def parts(concept):
    return [part for part in concept[1:] if isinstance(part, tuple)]


def atoms_in(concept):
    found = [concept] if concept[0] in (2, 6, 7) else []
    for part in parts(concept):
        found += atoms_in(part)
    return found


def atoms_of_row(row):
    return list(dict.fromkeys(atom for concept in row for atom in atoms_in(concept)))


def says(held, concept):
    """Whether the concept holds in a type, which is told as the set of the atoms that hold."""
    head = concept[0]
    if head in (2, 6, 7):
        return concept in held
    if head == 3:
        return says(held, concept[1]) and says(held, concept[2])
    if head == 4:
        return says(held, concept[1]) or says(held, concept[2])
    if head == 5:
        return not says(held, concept[1])
    return head == 0


def fits(atoms, one, other, role):
    for atom in atoms:
        if atom[0] == 6 and atom[1] == role and atom not in one and says(other, atom[2]):
            return False
        if atom[0] == 7 and atom[1] == role and atom in one and not says(other, atom[2]):
            return False
    return True


def due(held, atom):
    return atom[0] == 6 and atom in held or atom[0] == 7 and atom not in held


def borne_out(atoms, held, atom, there):
    return any(fits(atoms, held, other, atom[1]) and says(other, atom[2]) == (atom[0] == 6) for other in there)


def all_types(atoms):
    return [frozenset(atom for k, atom in enumerate(atoms) if number >> k & 1) for number in range(2 ** len(atoms))]


def told_steps(axioms, atoms):
    """The house's own proof, and the types that are left."""
    types = dict(enumerate(all_types(atoms)))
    steps = []
    for number, held in list(types.items()):
        broken = [k for k, (first, second) in enumerate(axioms) if says(held, first) and not says(held, second)]
        if broken:
            steps.append((number, 0, broken[0]))
            del types[number]
    while True:
        there = list(types.values())
        going = []
        for number, held in types.items():
            bad = [k for k, atom in enumerate(atoms) if due(held, atom) and not borne_out(atoms, held, atom, there)]
            if bad:
                going.append((number, 1, bad[0]))
        if not going:
            return steps, types
        steps += going
        for step in going:
            del types[step[0]]


class Reckoning:
    """The second reckoning's house."""

    def __init__(self):
        self.axioms = []

    def atoms_with(self, row):
        return atoms_of_row([concept for axiom in self.axioms for concept in axiom] + row)

    def answer(self, call):
        if call[0] == 0:
            self.axioms = []
            return [0]
        if call[0] == 1:
            return [self.line(call[4:])]
        if call[0] == 2:
            return [self.drop(call[2])]
        return self.none(call[4:])

    def line(self, numbers):
        row = parsed_row(numbers, 2)
        if row is None:
            return -1
        if len(self.axioms) == 5 or len(self.atoms_with(row)) > 5:
            return -7
        self.axioms.append(tuple(row))
        return len(self.axioms) - 1

    def drop(self, which):
        if which >= len(self.axioms):
            return -2
        del self.axioms[which]
        return len(self.axioms)

    def none(self, numbers):
        row = parsed_row(numbers, 1)
        if row is None:
            return [-1]
        atoms = self.atoms_with(row)
        if len(atoms) > 5:
            return [-7]
        steps, left = told_steps(self.axioms, atoms)
        if any(says(held, row[0]) for held in left.values()):
            return [-6]
        return proof(*steps)
