"""The house: its axioms, and what it answers to the calls of a list."""

from believedkinds.concepts import atoms_of, read_concepts
from believedkinds.questions import Question

MOST_AXIOMS = 5
MOST_ATOMS = 5

NOT_CONCEPTS = -1
NO_SUCH_AXIOM = -2
TOO_MANY = -7

BEGINS = 0
LINE = 1
DROP = 2
NONE = 3
MODEL = 4
CHECKNONE = 5
CHECKMODEL = 6
CAN = 7


class UnknownCall(ValueError):
    """A call of a number that the house doesn't answer."""


class House:
    """The axioms that are there; each call gives back the list of what it answers."""

    def __init__(self):
        self.axioms = []

    def atoms_with(self, concepts):
        """The atoms of the axioms, in order, then of these concepts."""
        row = []
        for axiom in self.axioms:
            row.extend(axiom)
        return atoms_of(row + concepts)

    def begins(self):
        self.axioms = []
        return [0]

    def line(self, numbers):
        concepts = read_concepts(numbers, 2)
        if concepts is None:
            return [NOT_CONCEPTS]
        if len(self.axioms) >= MOST_AXIOMS or len(self.atoms_with(concepts)) > MOST_ATOMS:
            return [TOO_MANY]
        self.axioms.append(tuple(concepts))
        return [len(self.axioms) - 1]

    def drop(self, which):
        if which >= len(self.axioms):
            return [NO_SUCH_AXIOM]
        self.axioms.pop(which)
        return [len(self.axioms)]

    def ask(self, call, lists):
        """The calls about a concept, which is the first list: they are refused alike, then answered each in its way."""
        concepts = read_concepts(lists[0], 1)
        if concepts is None:
            return [NOT_CONCEPTS]
        atoms = self.atoms_with(concepts)
        if len(atoms) > MOST_ATOMS:
            return [TOO_MANY]
        return answer_question(Question(self.axioms, concepts[0], atoms), call, lists)


class Reader:
    """Takes the numbers of a list one behind another, and leaves the list as it is."""

    def __init__(self, numbers):
        self.numbers = numbers
        self.place = 0

    def at_end(self):
        return self.place >= len(self.numbers)

    def take(self):
        number = self.numbers[self.place]
        self.place += 1
        return number

    def take_row(self):
        """So many numbers as the next one says, as a list of their own."""
        count = self.take()
        start = self.place
        self.place += count
        return self.numbers[start:self.place]

    def take_rows(self):
        """So many rows as the next number says."""
        count = self.take()
        rows = []
        while len(rows) < count:
            rows.append(self.take_row())
        return rows


def answer_question(question, call, lists):
    """What is answered to the call of this number about a concept."""
    if call == NONE:
        return question.none()
    if call == MODEL:
        return question.model()
    if call == CHECKNONE:
        return question.checknone(lists[1])
    if call == CHECKMODEL:
        return question.checkmodel(lists[1:])
    return question.can()


def answer_call(house, call, numbers, lists):
    """What the house answers to the call of this number."""
    if call == BEGINS:
        return house.begins()
    if call == LINE:
        return house.line(lists[0])
    if call == DROP:
        return house.drop(numbers[0])
    if call <= CAN:
        return house.ask(call, lists)
    raise UnknownCall("no call has this number")


def answers(calls):
    """For each call of the list, in order, how many numbers are answered, then these."""
    house = House()
    reader = Reader(calls)
    answered = []
    while not reader.at_end():
        call = reader.take()
        numbers = reader.take_row()
        lists = reader.take_rows()
        answer = answer_call(house, call, numbers, lists)
        answered.append(len(answer))
        answered.extend(answer)
    return answered
