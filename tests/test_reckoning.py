"""Many lists of calls, the same each time, against a second reckoning and against all small models."""

import itertools
import random
import unittest

from tests.helper import Reckoning, ask, begins, drop, line, none, parsed_row


def some_concept(chance, depth, atoms):
    """A concept made of a few given ones, so that there are seldom too many atoms."""
    if depth == 0 or chance.random() < 0.2:
        return chance.choice(atoms)
    head = chance.choice((3, 3, 4, 4, 5))
    if head == 5:
        return [5] + some_concept(chance, depth - 1, atoms)
    return [head] + some_concept(chance, depth - 1, atoms) + some_concept(chance, depth - 1, atoms)


def some_atoms(chance):
    """A few concepts: names, and up to three with 6 or 7 that may stand within one another."""
    atoms = [[0], [1]] + [[2, name] for name in chance.sample(range(4), chance.randrange(3))]
    for _ in range(chance.randrange(1, 4)):
        inner = some_concept(chance, chance.randrange(2), atoms)
        atoms.append([chance.choice((6, 7)), chance.choice((0, 0, 1))] + inner)
    return atoms


def spoilt(chance, numbers):
    """The numbers with one changed, added or gone."""
    place = chance.randrange(len(numbers) + 1)
    put = chance.choice(([], [chance.randrange(10)], [4294967295]))
    return numbers[:place] + put + numbers[place + chance.randrange(2):]


def handed(chance, numbers):
    numbers = spoilt(chance, numbers) if chance.random() < 0.08 else numbers
    return numbers[:100]


def some_calls(chance):
    atoms = some_atoms(chance)
    calls = []
    for _ in range(12):
        sort = chance.random()
        if sort < 0.05:
            calls.append(begins())
        elif sort < 0.45:
            both = some_concept(chance, 2, atoms) + some_concept(chance, 2, atoms)
            calls.append(line(*handed(chance, both)))
        elif sort < 0.55:
            calls.append(drop(chance.randrange(5)))
        else:
            calls.append(none(*handed(chance, some_concept(chance, 3, atoms))))
    return calls


def has(model, thing, concept):
    """Whether a thing of a model has the concept; a model is its things' names and a set of ways for each role."""
    names, ways = model
    head = concept[0]
    if head == 2:
        return concept[1] in names[thing]
    if head == 3:
        return has(model, thing, concept[1]) and has(model, thing, concept[2])
    if head == 4:
        return has(model, thing, concept[1]) or has(model, thing, concept[2])
    if head == 5:
        return not has(model, thing, concept[1])
    if head == 6:
        return any(has(model, other, concept[2]) for one, other in ways[concept[1]] if one == thing)
    if head == 7:
        return all(has(model, other, concept[2]) for one, other in ways[concept[1]] if one == thing)
    return head == 0


def subsets(things):
    things = list(things)
    return [set(chosen) for size in range(len(things) + 1) for chosen in itertools.combinations(things, size)]


def small_models():
    """All models of one or two things with name 0 and role 0, by which one also comes by role 1 back."""
    for size in (1, 2):
        pairs = itertools.product(range(size), repeat=2)
        for ways in subsets(pairs):
            back = {(other, one) for one, other in ways}
            for names in itertools.product(subsets((0,)), repeat=size):
                yield names, (ways, back)


class SecondReckoning(unittest.TestCase):
    def test_the_same_answers(self):
        chance = random.Random(20)
        met = {-1: 0, -2: 0, -6: 0, -7: 0}
        rounds = 0
        for _ in range(700):
            calls = some_calls(chance)
            reckoning = Reckoning()
            expected = [reckoning.answer(call) for call in calls]
            self.assertEqual(ask(*calls), expected, calls)
            for answer in expected:
                if answer[0] in met:
                    met[answer[0]] += 1
                rounds += len(answer) > 1 and answer[0] > 2 and 1 in answer[2::3]
        # So that a change of what is made here can't make the test hollow unseen.
        self.assertGreater(min(met.values()), 50, met)
        self.assertGreater(rounds, 300)


class SmallModels(unittest.TestCase):
    def test_no_small_model_has_what_none_rules_out(self):
        chance = random.Random(7)
        models = list(small_models())
        ruled_out = 0
        for _ in range(600):
            atoms = [[2, 0], [6, 0, 2, 0], [7, chance.randrange(2), 2, 0]]
            atoms.append([chance.choice((6, 7)), 0] + some_concept(chance, 1, atoms))
            axiom = some_concept(chance, 1, atoms) + some_concept(chance, 1, atoms)
            concept = some_concept(chance, 3, atoms)
            answer = ask(line(*axiom), none(*concept))[1]
            first, second = parsed_row(axiom, 2)
            asked = parsed_row(concept, 1)[0]
            held = any(
                all(not has(model, thing, first) or has(model, thing, second) for thing in range(len(model[0])))
                and any(has(model, thing, asked) for thing in range(len(model[0])))
                for model in models
            )
            if held:
                self.assertEqual(answer, [-6], (axiom, concept))
            ruled_out += answer[0] >= 0
        self.assertGreater(ruled_out, 20)
