"""Concepts as rows of numbers: where they end, and which atoms are in them."""

EVERYTHING = 0
NOTHING = 1
NAME = 2
BOTH = 3
EITHER = 4
NOT = 5
SOME = 6
ALL = 7

# By a concept's first number: how many concepts are its parts.
PARTS = (0, 0, 0, 2, 2, 1, 1, 1)
# By a concept's first number: among how many names or roles its second one chooses (0: it has no such number).
CHOICES = (0, 0, 4, 0, 0, 0, 2, 2)


def is_atom(head):
    """Whether a concept with this first number is an atom."""
    return head == NAME or head == SOME or head == ALL


def head_width(numbers, place):
    """How many numbers the concept at place has ahead of its parts; 0 if no concept begins so."""
    if place >= len(numbers) or numbers[place] >= len(PARTS):
        return 0
    choices = CHOICES[numbers[place]]
    if choices == 0:
        return 1
    if place + 1 < len(numbers) and numbers[place + 1] < choices:
        return 2
    return 0


def concept_end(numbers, start):
    """The place behind the concept that begins at start, or -1 if none does."""
    place = start
    awaited = 1
    while awaited > 0:
        width = head_width(numbers, place)
        if width == 0:
            return -1
        awaited += PARTS[numbers[place]] - 1
        place += width
    return place


def read_concepts(numbers, count):
    """The concepts, count of them, that the numbers are one behind another; None if they aren't just these."""
    concepts = []
    place = 0
    while len(concepts) < count:
        end = concept_end(numbers, place)
        if end < 0:
            return None
        concepts.append(tuple(numbers[place:end]))
        place = end
    if place < len(numbers):
        return None
    return concepts


def head_places(concept):
    """Where each concept begins that is in this one: itself first, then its parts from left to right."""
    places = []
    place = 0
    while place < len(concept):
        places.append(place)
        place += head_width(concept, place)
    return places


def part_at(concept, place):
    """The concept that begins at a place of this one."""
    return concept[place:concept_end(concept, place)]


def inside(atom):
    """The concept within an atom that begins with 6 or 7."""
    return atom[2:]


def atoms_of(row):
    """The atoms of a row of concepts, each once, in order."""
    atoms = []
    for concept in row:
        for place in head_places(concept):
            if is_atom(concept[place]):
                atom = part_at(concept, place)
                if atom not in atoms:
                    atoms.append(atom)
    return atoms
