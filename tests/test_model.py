"""model and can: point 2 as far as it speaks of them, and the told model."""

import unittest

from tests.helper import NOT_JUST_A_CONCEPT, SIX_ATOMS, ask, can, drop, line, model, none, told


class OneThing(unittest.TestCase):
    def test_without_atoms(self):
        self.assertEqual(ask(model(0), model(5, 1), model(4, 1, 0)), [[1, 0, 0]] * 3)

    def test_names(self):
        for name, worth in enumerate((1, 2, 4, 8)):
            self.assertEqual(ask(model(2, name)), [[1, worth, 0]])
        got = ask(model(3, 2, 0, 2, 2), model(3, 2, 3, 3, 2, 2, 3, 2, 1, 2, 0), model(5, 2, 0))
        self.assertEqual(got, [[1, 5, 0], [1, 15, 0], [1, 0, 0]])

    def test_the_lowest_type_in_which_the_concept_holds(self):
        self.assertEqual(ask(model(4, 2, 0, 2, 1), model(4, 2, 1, 2, 0)), [[1, 1, 0], [1, 2, 0]])

    def test_atoms_of_the_axioms_come_first(self):
        self.assertEqual(ask(line(2, 3, 0), model(4, 2, 0, 2, 3)), [[0], [1, 8, 0]])

    def test_names_of_the_axioms_are_told_too(self):
        got = ask(line(0, 2, 2), line(2, 0, 2, 1), model(2, 0), model(0))
        self.assertEqual(got[2:], [[1, 7, 0], [1, 4, 0]])

    def test_a_7_that_holds_needs_no_way(self):
        self.assertEqual(ask(model(7, 0, 1), model(7, 1, 2, 0)), [[1, 0, 0]] * 2)


class Ways(unittest.TestCase):
    def test_a_6_that_holds(self):
        # Atoms: the 6, the name; so the first thing is of type 1, and the other one of type 2.
        got = ask(model(6, 0, 2, 0), model(6, 1, 2, 3))
        self.assertEqual(got, [told((0, (0, 1)), (1,)), told((0, (1, 1)), (8,))])

    def test_a_7_that_does_not_hold(self):
        # Atoms: the 7, the name; the first thing, of type 0, hasn't the name, so it is itself borne out by itself.
        self.assertEqual(ask(model(5, 7, 1, 2, 1)), [told((0, (1, 0)))])
        # Here what is in the 7 is that it hasn't the name: so one comes to a thing that has it, and it doesn't hold in
        # that one either, since types that have the name and no 7 are lower.
        self.assertEqual(ask(model(5, 7, 0, 5, 2, 1)), [told((0, (0, 1)), (2, (0, 1)))])

    def test_a_way_to_the_thing_itself(self):
        self.assertEqual(ask(model(6, 1, 0)), [told((0, (1, 1)), (0,))])
        self.assertEqual(ask(line(0, 6, 1, 0), model(2, 0)), [[0], told((1, (1, 1)), (0, (1, 1)))])
        self.assertEqual(ask(line(0, 6, 1, 2, 0), model(2, 0)), [[0], told((1, (1, 0)))])

    def test_a_way_back_to_the_first_thing(self):
        axioms = (line(2, 0, 6, 0, 5, 2, 0), line(5, 2, 0, 6, 0, 2, 0))
        got = ask(*axioms, model(2, 0), model(5, 2, 0))
        self.assertEqual(got[2:], [told((1, (0, 1)), (0, (0, 0))), told((0, (0, 1)), (1, (0, 0)))])

    def test_both_roles_to_the_same_thing(self):
        got = ask(model(3, 6, 0, 2, 0, 6, 1, 2, 0), model(3, 6, 1, 2, 0, 6, 0, 2, 0))
        self.assertEqual(got, [told((0, (0, 1), (1, 1)), (1,)), told((0, (1, 1), (0, 1)), (1,))])

    def test_twice_by_the_same_role_to_the_same_thing(self):
        # Type 2 goes, so by 6 and by 7 one comes to type 3.
        self.assertEqual(ask(model(3, 6, 0, 2, 0, 5, 7, 0, 5, 2, 0)), [told((0, (0, 1)), (1, (0, 1)))])

    def test_twice_with_another_way_between(self):
        got = ask(model(3, 6, 0, 2, 0, 3, 6, 1, 2, 0, 6, 0, 5, 5, 2, 0))
        self.assertEqual(got, [told((0, (0, 1), (1, 1)), (1,))])

    def test_things_are_told_as_one_first_comes_to_them(self):
        got = ask(model(3, 6, 1, 2, 1, 6, 0, 2, 0))
        self.assertEqual(got, [told((0, (1, 1), (0, 2)), (2,), (1,))])

    def test_one_thing_after_another(self):
        # The thing with name 1, to which one comes from the first thing, is ahead of the one two ways off.
        got = ask(model(3, 6, 0, 6, 0, 2, 0, 6, 1, 2, 1))
        self.assertEqual(got, [told((0, (0, 1), (1, 2)), (0, (0, 3)), (2,), (1,))])

    def test_only_types_that_can_be_there_by_the_axioms(self):
        self.assertEqual(ask(line(2, 0, 2, 1), model(6, 0, 2, 0)), [[0], told((0, (0, 1)), (3,))])

    def test_only_types_that_fit(self):
        # From the first thing one comes to such alone as have name 1; the type with name 0 alone would be lower.
        got = ask(model(3, 6, 0, 2, 0, 7, 0, 2, 1))
        self.assertEqual(got, [told((0, (0, 1)), (3, (0, 2)), (0, (0, 2)))])
        # By the other role it fits to that one.
        got = ask(model(3, 6, 0, 2, 0, 7, 1, 2, 1))
        self.assertEqual(got, [told((0, (0, 1)), (1, (1, 2)), (0, (1, 2)))])


class NoSuchModel(unittest.TestCase):
    def test_without_axioms(self):
        self.assertEqual(ask(model(1), model(3, 2, 0, 5, 2, 0), model(6, 0, 1), model(5, 7, 1, 0)), [[-6]] * 4)

    def test_by_axioms(self):
        got = ask(line(2, 0, 1), model(2, 0), model(6, 1, 2, 0), model(5, 2, 0), drop(0), model(2, 0))
        self.assertEqual(got, [[0], [-6], [-6], [1, 0, 0], [0], [1, 1, 0]])

    def test_none_can_be_there_at_all(self):
        self.assertEqual(ask(line(0, 1), model(0), model(2, 0)), [[0], [-6], [-6]])
        self.assertEqual(ask(line(0, 6, 0, 2, 0), line(2, 0, 1), model(0), can(0))[2:], [[-6], [0]])


class Can(unittest.TestCase):
    def test_there_is_one(self):
        could = ((0,), (2, 0), (5, 2, 3), (3, 2, 0, 2, 1), (4, 1, 2, 0), (6, 1, 2, 0), (7, 1, 1), (5, 7, 0, 2, 0))
        for numbers in could:
            with self.subTest(numbers=numbers):
                self.assertEqual(ask(can(*numbers)), [[1]])

    def test_there_is_none(self):
        could_not = ((1,), (5, 0), (3, 2, 0, 5, 2, 0), (6, 0, 1), (5, 7, 1, 0), (3, 6, 0, 2, 0, 7, 0, 5, 2, 0))
        for numbers in could_not:
            with self.subTest(numbers=numbers):
                self.assertEqual(ask(can(*numbers)), [[0]])

    def test_by_axioms(self):
        got = ask(can(2, 0), line(2, 0, 6, 0, 2, 1), can(2, 0), line(2, 1, 1), can(2, 0), drop(1), can(2, 0))
        self.assertEqual(got, [[1], [0], [1], [1], [0], [1], [1]])

    def test_in_circles_alone(self):
        got = ask(line(2, 0, 6, 0, 2, 0), line(2, 0, 7, 1, 2, 0), line(2, 0, 6, 1, 0), can(2, 0), can(6, 1, 2, 0))
        self.assertEqual(got[3:], [[1], [1]])


class Edges(unittest.TestCase):
    def test_nested_deep(self):
        self.assertEqual(ask(model(*[5] * 98, 0), model(*[5] * 99, 1), model(*[5] * 99, 0)), [[1, 0, 0]] * 2 + [[-6]])
        self.assertEqual(ask(model(*[5] * 98, 2, 1), model(*[3, 0] * 49, 2, 3)), [[1, 2, 0], [1, 8, 0]])
        self.assertEqual(ask(model(6, 1, *[5] * 98)), [[-1]])
        self.assertEqual(ask(model(6, 1, *[5] * 96, 2, 0)), [told((0, (1, 1)), (1,))])
        self.assertEqual(ask(can(*[5] * 98, 0), can(*[5] * 99, 0), can(*[5] * 100)), [[1], [0], [-1]])
        self.assertEqual(ask(can(*[3] * 49, *[0] * 49, 1), can(*[4] * 49, *[1] * 49, 0)), [[0], [1]])
        self.assertEqual(ask(can(6, 1, *[5] * 97, 0), can(6, 1, *[5] * 97, 1)), [[0], [1]])
        self.assertEqual(ask(can(*[6, 0] * 49, 0), model(*[7, 1] * 49, 0)), [[-7]] * 2)

    def test_five_axioms_and_five_atoms(self):
        axioms = (line(2, 0, 2, 1), line(2, 1, 2, 2), line(2, 2, 2, 3), line(2, 3, 6, 0, 2, 0), line(0, 0))
        got = ask(*axioms, model(2, 3), model(5, 2, 3), can(3, 2, 0, 5, 2, 3), can(6, 0, 2, 0), model(6, 1, 0))
        # The first has name 3 and the 6, and leads to one of the type in which all five hold.
        self.assertEqual(got[5:], [told((8, (0, 1)), (15, (0, 1))), [1, 0, 0], [0], [1], [-7]])

    def test_a_chain_of_five(self):
        chain = (6, 0, 6, 0, 6, 0, 6, 0, 6, 0, 0)
        got = ask(can(*chain), model(*chain), can(*chain[:-1], 1), model(*chain[:-1], 1))
        # Who can go on five times can go on once; so there are types with the last few atoms alone, and from the first
        # thing, in which all hold, one comes to each that has fewer, from that to each that has fewer still.
        things = [(0, *[(0, to) for to in range(one + 1, 6)]) for one in range(6)]
        self.assertEqual(got, [[1], told(*things), [0], [-6]])


class Refusals(unittest.TestCase):
    def test_not_just_a_concept(self):
        for numbers in NOT_JUST_A_CONCEPT:
            with self.subTest(numbers=numbers):
                got = ask(line(2, 0, 2, 1), model(*numbers), can(*numbers), model(2, 0), can(2, 0))
                self.assertEqual(got, [[0], [-1], [-1], [1, 3, 0], [1]])

    def test_too_many_atoms(self):
        self.assertEqual(ask(model(*SIX_ATOMS), can(*SIX_ATOMS)), [[-7], [-7]])
        axiom = line(3, 2, 0, 2, 1, 3, 2, 2, 2, 3)
        got = ask(axiom, model(6, 0, 1), can(6, 0, 1), model(6, 0, 6, 0, 0), can(6, 0, 6, 0, 0), can(2, 0), drop(0))
        self.assertEqual(got, [[0], [-6], [0], [-7], [-7], [1], [0]])

    def test_not_a_concept_comes_first(self):
        for wrong in (SIX_ATOMS + (0,), SIX_ATOMS[:-2]):
            self.assertEqual(ask(model(*wrong), can(*wrong)), [[-1], [-1]])

    def test_too_many_atoms_comes_before_no_such_proof(self):
        self.assertEqual(ask(model(3, 1, *SIX_ATOMS), can(3, 1, *SIX_ATOMS)), [[-7], [-7]])

    def test_a_refusal_changes_nothing(self):
        got = ask(line(2, 0, 1), model(8), model(2, 0), model(*SIX_ATOMS), can(8), can(*SIX_ATOMS), none(2, 0), drop(1))
        self.assertEqual(got, [[0], [-1], [-6], [-7], [-1], [-7], [1, 1, 0, 0], [-2]])
