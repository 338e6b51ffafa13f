"""none: point 2 as far as it speaks of it, and the house's own proof that there's none."""

import unittest

from tests.helper import MOST, NOT_JUST_A_CONCEPT, SIX_ATOMS, ask, begins, drop, line, none, proof


class ByAxioms(unittest.TestCase):
    def test_a_broken_axiom_alone(self):
        self.assertEqual(ask(line(2, 0, 1), none(2, 0))[-1], [1, 1, 0, 0])

    def test_the_lowest_broken_axiom(self):
        got = ask(line(2, 0, 2, 1), line(2, 0, 1), none(2, 0))
        self.assertEqual(got[-1], proof((1, 0, 0), (3, 0, 1)))

    def test_types_rise_whatever_the_axiom(self):
        got = ask(line(2, 1, 1), line(2, 0, 1), none(4, 2, 0, 2, 1))
        self.assertEqual(got[-1], proof((1, 0, 0), (2, 0, 1), (3, 0, 0)))

    def test_atoms_of_the_axioms_come_first(self):
        got = ask(line(2, 3, 1), none(3, 2, 0, 2, 3))
        self.assertEqual(got[-1], proof((1, 0, 0), (3, 0, 0)))

    def test_a_dropped_axiom_orders_no_atoms(self):
        got = ask(line(2, 3, 1), line(2, 0, 1), drop(0), none(3, 2, 3, 2, 0))
        self.assertEqual(got[-1], proof((1, 0, 0), (3, 0, 0)))

    def test_types_go_even_where_the_concept_does_not_hold(self):
        got = ask(line(2, 0, 1), none(1))
        self.assertEqual(got[-1], proof((1, 0, 0)))

    def test_every_type_may_go(self):
        got = ask(line(0, 1), none(0), none(2, 1))
        self.assertEqual(got[1:], [proof((0, 0, 0)), proof((0, 0, 0), (1, 0, 0))])


class ByAtoms(unittest.TestCase):
    def test_to_nothing_one_does_not_come(self):
        self.assertEqual(ask(none(6, 0, 1)), [[1, 1, 1, 0]])

    def test_all_things_have_everything(self):
        self.assertEqual(ask(none(5, 7, 0, 0)), [[1, 0, 1, 0]])

    def test_all_may_be_of_nothing_if_there_are_none(self):
        self.assertEqual(ask(none(7, 0, 1)), [[-6]])

    def test_some_against_all(self):
        got = ask(none(3, 6, 0, 2, 0, 7, 0, 5, 2, 0))
        self.assertEqual(got, [proof((0, 1, 2), (2, 1, 2), (5, 1, 0), (7, 1, 0))])

    def test_some_against_all_by_the_other_role(self):
        got = ask(none(3, 6, 1, 2, 0, 7, 1, 5, 2, 0), none(3, 6, 0, 2, 0, 7, 1, 5, 2, 0))
        self.assertEqual(got, [proof((0, 1, 2), (2, 1, 2), (5, 1, 0), (7, 1, 0)), [-6]])

    def test_the_lowest_atom(self):
        got = ask(none(3, 6, 0, 1, 6, 1, 1))
        self.assertEqual(got, [proof((1, 1, 0), (2, 1, 1), (3, 1, 0))])

    def test_no_steps_are_needed(self):
        self.assertEqual(ask(none(3, 2, 0, 5, 2, 0)), [[0]])

    def test_a_type_may_bear_itself_out(self):
        axioms = (line(0, 6, 0, 2, 0), line(0, 2, 0))
        got = ask(*axioms, none(5, 2, 0), none(2, 0))
        self.assertEqual(got[2:], [proof((0, 0, 0), (1, 0, 1), (2, 0, 0)), [-6]])


class InRounds(unittest.TestCase):
    def test_axioms_then_an_atom(self):
        got = ask(line(0, 6, 0, 2, 0), line(2, 0, 1), none(0))
        self.assertEqual(got[-1], proof((0, 0, 0), (2, 0, 0), (3, 0, 1), (1, 1, 0)))

    def test_two_rounds(self):
        self.assertEqual(ask(none(6, 0, 6, 0, 1)), [proof((2, 1, 1), (3, 1, 1), (1, 1, 0))])

    def test_five_rounds(self):
        steps = [(kind, 1, atom) for atom in (4, 3, 2, 1, 0) for kind in range(2 ** atom, 2 ** (atom + 1))]
        self.assertEqual(ask(none(6, 0, 6, 0, 6, 0, 6, 0, 6, 0, 1)), [proof(*steps)])

    def test_a_round_goes_by_what_is_there_at_its_beginning(self):
        # By type 6 types 1 and 5 have gone, but in that round they still bear its atom 1 out.
        got = ask(line(3, 6, 0, 1, 6, 0, 6, 0, 1, 1), none(4, 6, 0, 6, 0, 1, 6, 1, 1))
        steps = ((3, 0, 0), (7, 0, 0), (1, 1, 0), (4, 1, 2), (5, 1, 0), (6, 1, 2), (2, 1, 1))
        self.assertEqual(got[-1], proof(*steps))


class Edges(unittest.TestCase):
    def test_no_axioms(self):
        self.assertEqual(ask(none(1), none(0)), [[0], [-6]])
        self.assertEqual(ask(begins(), none(1), none(0)), [[0], [0], [-6]])

    def test_nested_deep(self):
        self.assertEqual(ask(none(*[5] * 99, 0), none(*[5] * 98, 0), none(*[5] * 99, 1)), [[0], [-6], [-6]])
        self.assertEqual(ask(none(*[5] * 97, 6, 0, 0), none(*[5] * 98, 2, 0), none(*[5] * 100)), [[-6], [-6], [-1]])
        self.assertEqual(ask(none(*[3] * 49, *[0] * 49, 1), none(*[3, 0] * 49, 1)), [[0], [0]])
        self.assertEqual(ask(none(*[4] * 49, *[1] * 49, 0), none(*[4, 1] * 49, 1)), [[-6], [0]])
        self.assertEqual(ask(none(6, 1, *[5] * 97, 0)), [proof((1, 1, 0))])

    def test_an_atom_within_another_or_twice(self):
        # Atoms of the first: the name, 6, 7; of the second: 6, the name within it, 7.
        got = ask(none(3, 2, 0, 3, 6, 0, 2, 0, 7, 0, 1), none(3, 6, 0, 2, 0, 3, 2, 0, 7, 0, 1))
        self.assertEqual(got, [proof((6, 1, 1), (7, 1, 1)), proof((5, 1, 0), (7, 1, 0))])

    def test_the_same_atom_in_an_axiom_and_the_concept(self):
        got = ask(line(6, 0, 2, 0, 1), none(3, 2, 0, 6, 0, 2, 0))
        self.assertEqual(got[-1], proof((1, 0, 0), (3, 0, 0)))

    def test_just_five_atoms_and_one_more(self):
        names = (3, 2, 0, 3, 2, 1, 3, 2, 2, 3, 2, 3)
        self.assertEqual(ask(none(*names, 6, 0, 1)), [proof(*[(kind, 1, 4) for kind in range(16, 32)])])
        self.assertEqual(ask(none(*names, 3, 6, 0, 1, 6, 1, 1)), [[-7]])
        self.assertEqual(ask(none(*names, 6, 0, 6, 0, 1)), [[-7]])

    def test_just_five_atoms_with_the_axioms_and_one_more(self):
        axiom = line(3, 2, 0, 2, 1, 3, 2, 2, 2, 3)
        broken = [3, 7, 11, 19, 23, 27]
        steps = [(kind, 0, 0) for kind in broken] + [(kind, 1, 4) for kind in range(16, 32) if kind not in broken]
        got = ask(axiom, none(6, 0, 1), none(6, 0, 6, 0, 1), none(2, 0), none(3, 6, 0, 1, 6, 1, 1))
        self.assertEqual(got, [[0], proof(*steps), [-7], [-6], [-7]])

    def test_numbers_at_the_ends(self):
        wrong = (none(MOST), none(2, MOST), none(6, MOST, 0), none(7, 0, MOST), none(0, MOST), none(0, 0))
        self.assertEqual(ask(*wrong), [[-1]] * 6)

    def test_sixty_calls(self):
        calls = [begins(), line(2, 0, 1), none(2, 0), drop(0), drop(0)] * 12
        self.assertEqual(ask(*calls), [[0], [0], [1, 1, 0, 0], [0], [-2]] * 12)
        self.assertEqual(ask(*[begins()] * 60), [[0]] * 60)


class Refusals(unittest.TestCase):
    def test_not_just_a_concept(self):
        for numbers in NOT_JUST_A_CONCEPT:
            with self.subTest(numbers=numbers):
                self.assertEqual(ask(line(2, 0, 1), none(*numbers), none(2, 0)), [[0], [-1], [1, 1, 0, 0]])

    def test_a_thing_can_have_it(self):
        could = ((0,), (2, 0), (5, 2, 3), (3, 2, 0, 2, 1), (4, 1, 2, 0), (6, 1, 2, 0), (7, 1, 1), (5, 7, 0, 2, 0))
        for numbers in could:
            with self.subTest(numbers=numbers):
                self.assertEqual(ask(none(*numbers)), [[-6]])

    def test_a_thing_can_have_it_by_the_axioms(self):
        axioms = (line(2, 0, 6, 0, 2, 1), line(2, 1, 6, 0, 2, 0))
        self.assertEqual(ask(*axioms, none(3, 2, 0, 5, 2, 1))[-1], [-6])

    def test_not_a_concept_comes_first(self):
        many = (3, 6, 0, 0, 3, 6, 1, 0, 3, 7, 0, 0, 3, 7, 1, 0, 3, 2, 0)
        self.assertEqual(ask(none(*many), none(*many, 2, 1, 0), none(*many, 2, 1)), [[-1], [-1], [-7]])

    def test_too_many_atoms_comes_before_no_such_proof(self):
        self.assertEqual(ask(none(*SIX_ATOMS)), [[-7]])

    def test_a_refusal_changes_nothing(self):
        got = ask(line(2, 0, 1), none(8), none(2, 1), none(6, 0, 6, 0, 6, 0, 6, 0, 0), none(2, 0), line(0, 0))
        self.assertEqual(got, [[0], [-1], [-6], [-6], [1, 1, 0, 0], [1]])
        got = ask(line(2, 0, 1), none(6, 0, 6, 0, 6, 0, 6, 0, 6, 0, 0), none(2, 0), drop(1), drop(0))
        self.assertEqual(got, [[0], [-7], [1, 1, 0, 0], [-2], [0]])
