"""What is asked about one concept, by the axioms, and what is answered."""

from believedkinds.checks import check_model, check_none, read_steps, read_things
from believedkinds.kinds import lowest_holding
from believedkinds.models import told_model
from believedkinds.proofs import house_steps, left_after

NOT_A_PROOF = -3
NO_SUCH_PROOF = -6


class Question:
    """A concept, the axioms, and the atoms of these, then of it; each way to ask gives back the list of the answer."""

    def __init__(self, axioms, concept, atoms):
        self.axioms = axioms
        self.concept = concept
        self.atoms = atoms

    def none(self):
        steps = house_steps(self.axioms, self.atoms)
        if lowest_holding(self.concept, self.atoms, left_after(steps, self.atoms)) >= 0:
            return [NO_SUCH_PROOF]
        answer = [len(steps)]
        for step in steps:
            answer.extend(step)
        return answer

    def model(self):
        there = left_after(house_steps(self.axioms, self.atoms), self.atoms)
        first = lowest_holding(self.concept, self.atoms, there)
        if first < 0:
            return [NO_SUCH_PROOF]
        things = told_model(self.atoms, there, first)
        answer = [len(things)]
        for thing in things:
            answer.append(thing[0])
            answer.append(len(thing[1]))
            for way in thing[1]:
                answer.extend(way)
        return answer

    def checknone(self, numbers):
        steps = read_steps(numbers)
        if steps is None:
            return [NOT_A_PROOF]
        return check_none(self.axioms, self.atoms, self.concept, steps)

    def checkmodel(self, lists):
        things = read_things(lists)
        if things is None:
            return [NOT_A_PROOF]
        return check_model(self.axioms, self.concept, things)

    def can(self):
        # Where no proof rules the concept out, the told model has it: so the kinds that can be there tell it.
        there = left_after(house_steps(self.axioms, self.atoms), self.atoms)
        if lowest_holding(self.concept, self.atoms, there) >= 0:
            return [1]
        return [0]
