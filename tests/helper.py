"""What the tests share: how calls are written and answers taken apart, and a second reckoning of the document."""

from believedkinds.house import answers

ROLES = (0, 1)
MOST = 4294967295

SIX_ATOMS = (4, 6, 0, 0, 4, 6, 1, 0, 4, 7, 0, 0, 4, 7, 1, 0, 4, 2, 0, 2, 1)
NOT_JUST_A_CONCEPT = (
    (), (0, 0), (1, 1), (2, 0, 0), (3, 0, 0, 0), (5, 1, 1), (2, 4), (6, 2, 0), (7, 2, 0), (8,), (8, 0), (5, 8),
    (2,), (3,), (3, 0), (4,), (4, 0), (5,), (6,), (6, 0), (7,), (7, 1), (3, 2, 0, 2), (6, 1, 2), (2, 0, 2, 1),
    (MOST,), (2, MOST), (6, MOST, 0), (7, 0, MOST), (7, MOST, 0), (0, MOST),
)


def begins():
    return [0, 0, 0]


def line(*numbers):
    return [1, 0, 1, len(numbers), *numbers]


def drop(which):
    return [2, 1, which, 0]


def none(*numbers):
    return [3, 0, 1, len(numbers), *numbers]


def model(*numbers):
    return [4, 0, 1, len(numbers), *numbers]


def checknone(concept, *numbers):
    """The concept as a row of numbers; behind it the numbers of the steps."""
    return [5, 0, 2, len(concept), *concept, len(numbers), *numbers]


def checkmodel(concept, *things):
    """The concept as a row of numbers; behind it a row of numbers for each thing."""
    return [6, 0, 1 + len(things), *[number for row in (concept, *things) for number in (len(row), *row)]]


def can(*numbers):
    return [7, 0, 1, len(numbers), *numbers]


def lists_of(call):
    """The lists of a call."""
    rows = []
    place = 3 + call[1]
    for _ in range(call[2 + call[1]]):
        rows.append(call[place + 1:place + 1 + call[place]])
        place += 1 + call[place]
    assert place == len(call), "not as the interface tells a call"
    return rows


def ask(*calls):
    """The answer of each call, when they are handed in as one list."""
    assert 1 <= len(calls) <= 60, "the document allows 1 to 60 calls"
    assert sum(call[0] in (3, 4, 7) for call in calls) <= 12, "the document allows 12 calls of none, model and can"
    assert sum(call[0] == 5 for call in calls) <= 12, "the document allows 12 calls of checknone"
    for call in calls:
        rows = lists_of(call)
        things = rows[1:] if call[0] == 6 else []
        assert all(len(row) <= 100 for row in rows), "the document allows 100 numbers in a list"
        assert len(things) <= 10 and all(len(thing) <= 30 for thing in things), "the document allows 10 things of 30"
    handed = [number for call in calls for number in call]
    assert len(handed) <= 25000, "the document allows 25000 numbers"
    return taken_apart(answers(handed), len(calls))


def taken_apart(answered, count):
    """A list of answers for each call; complains if there are not just so many."""
    found = []
    place = 0
    while place < len(answered):
        width = answered[place]
        found.append(answered[place + 1:place + 1 + width])
        assert len(found[-1]) == width, "an answer breaks off"
        place += 1 + width
    assert len(found) == count, "not one answer for each call"
    return found


def proof(*steps):
    """The answer of none with these steps."""
    return [len(steps), *[number for step in steps for number in step]]


def told(*things):
    """The answer of model with these things: of each its names, then a pair for each way."""
    answer = [len(things)]
    for names, *ways in things:
        answer += [names, len(ways), *[number for way in ways for number in way]]
    return answer


def things_told(answer):
    """The rows of numbers that checkmodel takes, of what model answered."""
    things = []
    place = 1
    while place < len(answer):
        behind = place + 2 + 2 * answer[place + 1]
        things.append([answer[place], *answer[place + 2:behind]])
        place = behind
    assert len(things) == answer[0], "not so many things as are told"
    return things


# A second reckoning, by the document's words alone and in another form (nested tuples, recursion, sets).

def parsed(numbers):
    """The concept at the beginning of the numbers, nested, and what's behind it; ValueError if there's none."""
    if not numbers:
        raise ValueError("breaks off")
    head, rest = numbers[0], numbers[1:]
    if head in (0, 1):
        return (head,), rest
    if head in (2, 6, 7):
        if not rest or rest[0] > (3 if head == 2 else 1):
            raise ValueError("no such name or role")
        if head == 2:
            return (2, rest[0]), rest[1:]
        part, behind = parsed(rest[1:])
        return (head, rest[0], part), behind
    if head in (3, 4):
        left, behind = parsed(rest)
        right, behind = parsed(behind)
        return (head, left, right), behind
    if head == 5:
        part, behind = parsed(rest)
        return (5, part), behind
    raise ValueError("no such concept")


def parsed_row(numbers, count):
    """The concepts, if the numbers are just so many; else None."""
    row = []
    try:
        for _ in range(count):
            concept, numbers = parsed(numbers)
            row.append(concept)
    except ValueError:
        return None
    return None if numbers else row


def parts(concept):
    return [part for part in concept[1:] if isinstance(part, tuple)]


def atoms_in(concept):
    found = [concept] if concept[0] in (2, 6, 7) else []
    for part in parts(concept):
        found += atoms_in(part)
    return found


def atoms_of_row(row):
    return list(dict.fromkeys(atom for concept in row for atom in atoms_in(concept)))


def says(held, concept):
    """Whether the concept holds in a type, which is told as the set of the atoms that hold."""
    head = concept[0]
    if head in (2, 6, 7):
        return concept in held
    if head == 3:
        return says(held, concept[1]) and says(held, concept[2])
    if head == 4:
        return says(held, concept[1]) or says(held, concept[2])
    if head == 5:
        return not says(held, concept[1])
    return head == 0


def fits(atoms, one, other, role):
    for atom in atoms:
        if atom[0] == 6 and atom[1] == role and atom not in one and says(other, atom[2]):
            return False
        if atom[0] == 7 and atom[1] == role and atom in one and not says(other, atom[2]):
            return False
    return True


def due(held, atom):
    return atom[0] == 6 and atom in held or atom[0] == 7 and atom not in held


def borne_out(atoms, held, atom, there):
    return any(fits(atoms, held, other, atom[1]) and says(other, atom[2]) == (atom[0] == 6) for other in there)


def all_types(atoms):
    return [frozenset(atom for k, atom in enumerate(atoms) if number >> k & 1) for number in range(2 ** len(atoms))]


def told_steps(axioms, atoms):
    """The house's own proof, and the types that are left."""
    types = dict(enumerate(all_types(atoms)))
    steps = []
    for number, held in list(types.items()):
        broken = [k for k, (first, second) in enumerate(axioms) if says(held, first) and not says(held, second)]
        if broken:
            steps.append((number, 0, broken[0]))
            del types[number]
    while True:
        there = list(types.values())
        going = []
        for number, held in types.items():
            bad = [k for k, atom in enumerate(atoms) if due(held, atom) and not borne_out(atoms, held, atom, there)]
            if bad:
                going.append((number, 1, bad[0]))
        if not going:
            return steps, types
        steps += going
        for step in going:
            del types[step[0]]


def left_by_one_and_one(axioms, atoms):
    """The types that can be there, found from the highest down, one going at a time."""
    types = dict(enumerate(all_types(atoms)))

    def must_go(held):
        if any(says(held, first) and not says(held, second) for first, second in axioms):
            return True
        there = types.values()
        return any(due(held, atom) and not borne_out(atoms, held, atom, there) for atom in atoms)

    while True:
        going = [number for number, held in types.items() if must_go(held)]
        if not going:
            return types
        del types[max(going)]


def told_things(atoms, left, first):
    """The told model's things, of each its names and its ways, by the types that can be there."""
    order = [first]
    things = []
    for number in order:
        held = left[number]
        ways = []
        for atom in atoms:
            if due(held, atom):
                to = min(n for n, other in left.items() if borne_out(atoms, held, atom, [other]))
                if to not in order:
                    order.append(to)
                if (atom[1], order.index(to)) not in ways:
                    ways.append((atom[1], order.index(to)))
        things.append((sum(2 ** atom[1] for atom in held if atom[0] == 2), *ways))
    return things


def has(names, ways, thing, concept):
    """Whether a thing of a model has the concept; ways has triples: from which thing, by which role, to which."""
    head = concept[0]
    if head == 2:
        return names[thing] // 2 ** concept[1] % 2 == 1
    if head == 3:
        return has(names, ways, thing, concept[1]) and has(names, ways, thing, concept[2])
    if head == 4:
        return has(names, ways, thing, concept[1]) or has(names, ways, thing, concept[2])
    if head == 5:
        return not has(names, ways, thing, concept[1])
    if head in (6, 7):
        reached = [to for one, role, to in ways if (one, role) == (thing, concept[1])]
        return (any if head == 6 else all)(has(names, ways, to, concept[2]) for to in reached)
    return head == 0


def wrong_step(axioms, atoms, types, kind, sort, which):
    """1 or 2 if that's wrong with a step, by the types that are there; else 0."""
    if kind not in types:
        return 1
    if sort == 0:
        if which >= len(axioms):
            return 2
        first, second = axioms[which]
        return 0 if says(types[kind], first) and not says(types[kind], second) else 2
    if which >= len(atoms) or not due(types[kind], atoms[which]):
        return 2
    return 2 if borne_out(atoms, types[kind], atoms[which], types.values()) else 0


class Reckoning:
    """The second reckoning's house."""

    def __init__(self):
        self.axioms = []

    def atoms_with(self, row):
        return atoms_of_row([concept for axiom in self.axioms for concept in axiom] + row)

    def answer(self, call):
        if call[0] == 0:
            self.axioms = []
            return [0]
        if call[0] == 2:
            return [self.drop(call[2])]
        rows = lists_of(call)
        if call[0] == 1:
            return [self.line(rows[0])]
        row = parsed_row(rows[0], 1)
        if row is None:
            return [-1]
        atoms = self.atoms_with(row)
        if len(atoms) > 5:
            return [-7]
        if call[0] == 5:
            return self.checknone(row[0], atoms, rows[1])
        if call[0] == 6:
            return self.checkmodel(row[0], rows[1:])
        return {3: self.none, 4: self.model, 7: self.can}[call[0]](row[0], atoms)

    def line(self, numbers):
        row = parsed_row(numbers, 2)
        if row is None:
            return -1
        if len(self.axioms) == 5 or len(self.atoms_with(row)) > 5:
            return -7
        self.axioms.append(tuple(row))
        return len(self.axioms) - 1

    def drop(self, which):
        if which >= len(self.axioms):
            return -2
        del self.axioms[which]
        return len(self.axioms)

    def none(self, concept, atoms):
        steps, left = told_steps(self.axioms, atoms)
        if any(says(held, concept) for held in left.values()):
            return [-6]
        return proof(*steps)

    def model(self, concept, atoms):
        left = left_by_one_and_one(self.axioms, atoms)
        firsts = [number for number, held in left.items() if says(held, concept)]
        if not firsts:
            return [-6]
        return told(*told_things(atoms, left, min(firsts)))

    def can(self, concept, atoms):
        left = left_by_one_and_one(self.axioms, atoms)
        return [int(any(says(held, concept) for held in left.values()))]

    def checknone(self, concept, atoms, numbers):
        if len(numbers) % 3 or any(second > 1 for second in numbers[1::3]):
            return [-3]
        types = dict(enumerate(all_types(atoms)))
        for j in range(len(numbers) // 3):
            wrong = wrong_step(self.axioms, atoms, types, *numbers[3 * j:3 * j + 3])
            if wrong:
                return [wrong, j]
            del types[numbers[3 * j]]
        holding = [number for number, held in types.items() if says(held, concept)]
        return [3, min(holding)] if holding else [0]

    def checkmodel(self, concept, things):
        if any(not thing or len(thing[1:]) % 2 for thing in things):
            return [-3]
        if not things:
            return [1]
        names = [thing[0] for thing in things]
        ways = [(one, *way) for one, thing in enumerate(things) for way in zip(thing[1::2], thing[2::2])]
        stray = [one for one, role, to in ways if role not in ROLES or to >= len(things)]
        if stray:
            return [2, min(stray)]
        for thing in range(len(things)):
            for axiom, (first, second) in enumerate(self.axioms):
                if has(names, ways, thing, first) and not has(names, ways, thing, second):
                    return [3, thing, axiom]
        return [0] if has(names, ways, 0, concept) else [4]
