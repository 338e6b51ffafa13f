"""Many lists of calls, the same each time, against a second reckoning and against all small models."""

import itertools
import random
import unittest

from tests.helper import (
    MOST, Reckoning, ask, begins, can, checkmodel, checknone, drop, has, line, model, none, parsed_row, things_told,
    told_steps,
)


def some_concept(chance, depth, atoms):
    """A concept made of a few given ones, so that there are seldom too many atoms."""
    if depth == 0 or chance.random() < 0.2:
        return chance.choice(atoms)
    head = chance.choice((3, 3, 4, 4, 5))
    if head == 5:
        return [5] + some_concept(chance, depth - 1, atoms)
    return [head] + some_concept(chance, depth - 1, atoms) + some_concept(chance, depth - 1, atoms)


def some_atoms(chance):
    """A few concepts: names, and up to four with 6 or 7 that may stand within one another."""
    atoms = [[0], [1]] + [[2, name] for name in chance.sample(range(4), chance.randrange(3))]
    for _ in range(chance.choice((1, 2, 3, 3, 4))):
        inner = some_concept(chance, chance.randrange(2), atoms)
        atoms.append([chance.choice((6, 7)), chance.choice((0, 0, 1))] + inner)
    return atoms


def spoilt(chance, numbers):
    """The numbers with one changed, added or gone."""
    place = chance.randrange(len(numbers) + 1)
    put = chance.choice(([], [chance.randrange(10)], [MOST]))
    return numbers[:place] + put + numbers[place + chance.randrange(2):]


def handed(chance, numbers):
    numbers = spoilt(chance, numbers) if chance.random() < 0.08 else numbers
    return numbers[:100]


def changed(chance, numbers):
    """The numbers with one of them changed, if there are some."""
    numbers = list(numbers)
    if numbers:
        numbers[chance.randrange(len(numbers))] = chance.choice((0, 1, 1, 2, 3, 5, 31, MOST))
    return numbers


def some_steps(chance, reckoning, concept):
    """The house's own steps, or some that are near to them."""
    row = parsed_row(concept, 1)
    atoms = reckoning.atoms_with(row or [])
    if row is None or len(atoms) > 5:
        return [chance.randrange(4) for _ in range(chance.randrange(10))]
    steps = [list(step) for step in told_steps(reckoning.axioms, atoms)[0]]
    sort = chance.randrange(8)
    if sort == 0:
        chance.shuffle(steps)
    elif sort == 1 and steps:
        del steps[chance.randrange(len(steps))]
    elif sort == 2:
        steps = steps[:chance.randrange(len(steps) + 1)]
    elif sort == 3 and steps:
        steps.insert(chance.randrange(len(steps)), chance.choice(steps))
    elif sort == 4:
        steps.insert(chance.randrange(len(steps) + 1), [chance.randrange(9), chance.randrange(2), chance.randrange(4)])
    numbers = [number for step in steps for number in step]
    if sort == 5:
        numbers = changed(chance, numbers)
    if sort == 6:
        numbers = handed(chance, numbers)
    return numbers[:100]


def any_things(chance):
    count = chance.randrange(1, 4)
    things = []
    for _ in range(count):
        ways = [(chance.randrange(2), chance.randrange(count)) for _ in range(chance.randrange(4))]
        things.append([chance.randrange(16), *[number for way in ways for number in way]])
    return things


def some_things(chance, reckoning, concept):
    """The told model's things, or some that are near to them, or any."""
    answer = reckoning.answer(model(*concept))
    things = things_told(answer) if answer[0] > 0 else any_things(chance)
    sort = chance.randrange(9)
    which = chance.randrange(len(things))
    if sort == 0:
        things = any_things(chance)
    elif sort == 1:
        things[which] = changed(chance, things[which])
    elif sort == 2:
        things[which] = things[which] + [chance.randrange(3), chance.randrange(len(things) + 1)]
    elif sort == 3:
        things = things + any_things(chance)
    elif sort == 4:
        del things[which]
    elif sort == 5:
        things[which] = spoilt(chance, things[which])
    elif sort == 6:
        things[which][0] += 16 * chance.randrange(2 ** 28)
    return [thing[:30] for thing in things[:10]]


def asking(chance, reckoning, concept):
    """One of the calls about a concept."""
    sort = chance.randrange(5)
    if sort == 3:
        return checknone(concept, *some_steps(chance, reckoning, concept))
    if sort == 4:
        return checkmodel(concept, *some_things(chance, reckoning, concept))
    return (none, model, can)[sort](*concept)


def some_calls(chance, count):
    """Calls, and what the second reckoning answers."""
    atoms = some_atoms(chance)
    reckoning = Reckoning()
    calls, expected = [], []
    for _ in range(count):
        sort = chance.random()
        if sort < 0.05:
            call = begins()
        elif sort < 0.3:
            both = some_concept(chance, 2, atoms) + some_concept(chance, 2, atoms)
            call = line(*handed(chance, both))
        elif sort < 0.38:
            call = drop(chance.randrange(5))
        else:
            call = asking(chance, reckoning, handed(chance, some_concept(chance, 3, atoms)))
        calls.append(call)
        expected.append(reckoning.answer(call))
    return calls, expected


def allowed(calls):
    return sum(call[0] in (3, 4, 7) for call in calls) <= 12 and sum(call[0] == 5 for call in calls) <= 12


def subsets(things):
    things = list(things)
    return [set(chosen) for size in range(len(things) + 1) for chosen in itertools.combinations(things, size)]


def small_models():
    """All models of one or two things with name 0 and role 0, by which one also comes by role 1 back: names, ways."""
    for size in (1, 2):
        for pairs in subsets(itertools.product(range(size), repeat=2)):
            ways = [(one, 0, to) for one, to in sorted(pairs)] + [(to, 1, one) for one, to in sorted(pairs)]
            for names in itertools.product((0, 1), repeat=size):
                yield names, ways


def as_things(names, ways):
    """The rows of numbers that checkmodel takes, of a model."""
    things = []
    for thing, sum_of_names in enumerate(names):
        own = [number for one, role, to in ways if one == thing for number in (role, to)]
        things.append([sum_of_names, *own])
    return things


class SecondReckoning(unittest.TestCase):
    def test_the_same_answers(self):
        chance = random.Random(20)
        met = {}
        for _ in range(1500):
            calls, expected = some_calls(chance, 12)
            self.assertEqual(ask(*calls), expected, calls)
            for call, answer in zip(calls, expected):
                sort = (call[0], answer[0] if answer[0] < 0 or call[0] > 4 else "told")
                met[sort] = met.get(sort, 0) + 1
        # So that a change of what is made here can't make the test hollow unseen.
        due = [(0, "told"), (1, "told"), (1, -1), (1, -7), (2, "told"), (2, -2)]
        due += [(3, "told"), (3, -1), (3, -7), (3, -6), (4, "told"), (4, -1), (4, -7), (4, -6)]
        due += [(5, sort) for sort in (0, 1, 2, 3, -1, -3, -7)] + [(6, sort) for sort in (0, 2, 3, 4, -1, -3, -7)]
        due += [(7, sort) for sort in (0, 1, -1, -7)]
        self.assertEqual([sort for sort in due if met.get(sort, 0) < 15], [], met)

    def test_the_same_answers_in_long_lists(self):
        chance = random.Random(60)
        tried = 0
        while tried < 25:
            calls, expected = some_calls(chance, 32)
            if allowed(calls):
                self.assertEqual(ask(*calls), expected, calls)
                tried += 1

    def test_a_model_of_eleven_things(self):
        one = [6, 0, 6, 1, 0]
        all_one = [7, 0, 4, *one, 4, *one, 6, 1, 0]
        all_all = [7, 0, *all_one]
        third = [7, 0, *all_all]
        either = [4, 4, 6, 1, 0, *one, 4, 6, 1, 0, *third]
        concept = [4, 4, 6, 1, 0, *all_all, 4, *all_all, *all_one]
        calls = [
            line(3, 5, *one, 6, 1, 0, 5, *all_all),
            line(3, 6, 1, 0, 6, 1, 0, 3, *one, *third),
            line(4, 3, *third, *all_one, 5, *third, *either),
            model(*concept),
        ]
        reckoning = Reckoning()
        expected = [reckoning.answer(call) for call in calls]
        self.assertEqual(ask(*calls), expected)
        self.assertEqual(expected[-1][0], 11)
        # So many things can't be handed in, so the second reckoning looks at them.
        self.assertEqual(reckoning.answer(checkmodel(concept, *things_told(expected[-1]))), [0])


class OneOrTheOther(unittest.TestCase):
    def five_atoms(self, chance):
        """Five atoms, most of them with 6 or 7, of which each may stand within the next ones."""
        atoms = [[2, name] for name in range(chance.randrange(3))]
        while len(atoms) < 5:
            inner = some_concept(chance, chance.randrange(2), atoms + [[0]])
            atoms.append([chance.choice((6, 7)), chance.choice((0, 0, 1))] + inner)
        return atoms

    def some_axioms(self, chance, atoms):
        for _ in range(chance.choice((0, 0, 0, 1, 2, 5))):
            both = some_concept(chance, 1, atoms) + some_concept(chance, 2, atoms)
            if len(both) <= 100:
                yield line(*both)

    def test_there_is_always_one_proof_and_it_is_taken(self):
        chance = random.Random(3)
        met = {"none": 0, "model": 0, "many things": 0}
        for _ in range(1200):
            atoms = chance.choice((some_atoms, self.five_atoms))(chance)
            axioms = list(self.some_axioms(chance, atoms))
            concept = some_concept(chance, chance.choice((2, 3)), atoms)
            if len(concept) > 100:
                continue
            whether, no, yes = ask(*axioms, can(*concept), none(*concept), model(*concept))[-3:]
            if whether[0] < 0:
                self.assertEqual([whether, no, yes], [[-7]] * 3)
            elif whether == [1]:
                self.assertEqual(no, [-6])
                things = things_told(yes)
                reckoning = Reckoning()
                for axiom in axioms:
                    reckoning.answer(axiom)
                self.assertEqual(reckoning.answer(checkmodel(concept, *things)), [0], (axioms, concept))
                if len(things) > 10:
                    continue
                got = ask(*axioms, checkmodel(concept, *things), checknone(concept))[-2:]
                self.assertEqual(got[0], [0], (axioms, concept))
                self.assertEqual(got[1][0], 3)
                met["model"] += 1
                met["many things"] += len(things) > 2
            else:
                self.assertEqual([whether, yes], [[0], [-6]])
                self.assertEqual(len(no), 1 + 3 * no[0])
                self.assertEqual(ask(*axioms, checknone(concept, *no[1:]))[-1], [0], (axioms, concept))
                met["none"] += 1
        self.assertGreater(min(met.values()), 60, met)


class SmallModels(unittest.TestCase):
    def cases(self, chance, count):
        for _ in range(count):
            atoms = [[2, 0], [6, 0, 2, 0], [7, chance.randrange(2), 2, 0]]
            atoms.append([chance.choice((6, 7)), 0] + some_concept(chance, 1, atoms))
            axiom = some_concept(chance, 1, atoms) + some_concept(chance, 1, atoms)
            yield axiom, some_concept(chance, 3, atoms)

    def test_no_small_model_has_what_is_ruled_out(self):
        models = list(small_models())
        ruled_out = 0
        for axiom, concept in self.cases(random.Random(7), 600):
            no, whether = ask(line(*axiom), none(*concept), can(*concept))[1:]
            first, second = parsed_row(axiom, 2)
            asked = parsed_row(concept, 1)[0]
            held = any(
                all(not has(*model, thing, first) or has(*model, thing, second) for thing in range(len(model[0])))
                and any(has(*model, thing, asked) for thing in range(len(model[0])))
                for model in models
            )
            if held:
                self.assertEqual([no, whether], [[-6], [1]], (axiom, concept))
            ruled_out += no[0] >= 0
        self.assertGreater(ruled_out, 20)

    def test_each_small_model_is_looked_at_aright(self):
        models = list(small_models())
        met = {0: 0, 3: 0, 4: 0}
        for axiom, concept in self.cases(random.Random(8), 40):
            reckoning = Reckoning()
            self.assertEqual(reckoning.answer(line(*axiom)), [0])
            for start in range(0, len(models), 59):
                calls = [checkmodel(concept, *as_things(*model)) for model in models[start:start + 59]]
                expected = [reckoning.answer(call) for call in calls]
                self.assertEqual(ask(line(*axiom), *calls)[1:], expected, (axiom, concept))
                for answer in expected:
                    met[answer[0]] += 1
        self.assertGreater(min(met.values()), 100, met)
