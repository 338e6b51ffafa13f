"""checknone: point 2 as far as it speaks of it, and what's wrong first with a proof that there's none."""

import itertools
import unittest

from tests.helper import MOST, NOT_JUST_A_CONCEPT, SIX_ATOMS, ask, checknone, drop, line, none

# Atoms: the 6, name 0, the 7. The types 5 and 7, in which it holds, go for atom 0; 0 and 2 might go for atom 2.
SOME_AGAINST_ALL = (3, 6, 0, 2, 0, 7, 0, 5, 2, 0)

# Atoms: name 0, the 6, name 1. Types 1 and 5 break axiom 0, types from 4 on axiom 1; then 2 and 3 go for atom 1.
CHAIN = (line(2, 0, 6, 0, 2, 1), line(2, 1, 1))
CHAIN_STEPS = ((1, 0, 0), (4, 0, 1), (5, 0, 0), (6, 0, 1), (7, 0, 1), (2, 1, 1), (3, 1, 1))


def check(concept, *steps):
    return checknone(concept, *[number for step in steps for number in step])


class Right(unittest.TestCase):
    def test_the_houses_own(self):
        steps = ((0, 1, 2), (2, 1, 2), (5, 1, 0), (7, 1, 0))
        self.assertEqual(ask(check(SOME_AGAINST_ALL, *steps)), [[0]])
        self.assertEqual(ask(*CHAIN, check((2, 0), *CHAIN_STEPS))[-1], [0])

    def test_what_none_answers(self):
        for axioms, concept in (((), SOME_AGAINST_ALL), (CHAIN, (2, 0)), (CHAIN, (6, 0, 2, 1)), ((line(0, 1),), (0,))):
            steps = ask(*axioms, none(*concept))[-1][1:]
            self.assertGreater(len(steps), 0)
            self.assertEqual(ask(*axioms, checknone(concept, *steps))[-1], [0])

    def test_in_another_order(self):
        steps = ((0, 1, 2), (2, 1, 2), (5, 1, 0), (7, 1, 0))
        orders = [check(SOME_AGAINST_ALL, *order) for order in itertools.permutations(steps)]
        self.assertEqual(ask(*orders[:12]) + ask(*orders[12:]), [[0]] * 24)
        self.assertEqual(ask(*CHAIN, check((2, 0), *reversed(CHAIN_STEPS[:5]), (3, 1, 1), (2, 1, 1)))[-1], [0])

    def test_with_fewer_steps(self):
        self.assertEqual(ask(check(SOME_AGAINST_ALL, (7, 1, 0), (5, 1, 0))), [[0]])
        # Type 2 hasn't the concept, so it may stay.
        self.assertEqual(ask(*CHAIN, check((2, 0), *CHAIN_STEPS[:5], (3, 1, 1)))[-1], [0])

    def test_for_another_reason(self):
        # Type 5 breaks both axioms.
        steps = [(5, 0, 1) if step[0] == 5 else step for step in CHAIN_STEPS]
        self.assertEqual(ask(*CHAIN, check((2, 0), *steps))[-1], [0])
        # Neither atom of type 3 is borne out.
        concept = (3, 6, 0, 1, 6, 1, 1)
        self.assertEqual(ask(check(concept, (3, 1, 0)), check(concept, (3, 1, 1))), [[0], [0]])

    def test_no_steps_at_all(self):
        got = ask(checknone((1,)), checknone((3, 2, 0, 5, 2, 0)), checknone((5, 0)), line(0, 1), checknone((1,)))
        self.assertEqual(got, [[0], [0], [0], [0], [0]])

    def test_more_steps_than_are_needed(self):
        self.assertEqual(ask(line(2, 0, 1), check((1,), (1, 0, 0))), [[0], [0]])

    def test_when_all_types_are_gone(self):
        self.assertEqual(ask(line(0, 1), check((0,), (0, 0, 0)), check((2, 0), (1, 0, 0), (0, 0, 0))), [[0]] * 3)


class NotThere(unittest.TestCase):
    def test_gone_already(self):
        got = ask(check((6, 0, 1), (1, 1, 0), (1, 1, 0)), line(2, 0, 1), check((2, 0), (1, 0, 0), (1, 0, 0)))
        self.assertEqual(got, [[1, 1], [0], [1, 1]])
        self.assertEqual(ask(check(SOME_AGAINST_ALL, (7, 1, 0), (5, 1, 0), (0, 1, 2), (7, 1, 0))), [[1, 3]])

    def test_too_high(self):
        got = ask(check((6, 0, 1), (2, 1, 0)), check((6, 0, 1), (MOST, 1, 0)), check((6, 0, 1), (1, 1, 0), (3, 1, 0)))
        self.assertEqual(got, [[1, 0], [1, 0], [1, 1]])
        got = ask(line(0, 1), check((0,), (1, 0, 0)), check((0,), (0, 0, 0), (1, 0, 0)))
        self.assertEqual(got, [[0], [1, 0], [1, 1]])

    def test_the_axioms_atoms_count(self):
        got = ask(line(2, 0, 1), check((2, 1), (3, 0, 0)), drop(0), check((2, 1), (3, 0, 0)))
        self.assertEqual(got, [[0], [3, 2], [0], [1, 0]])


class NoReason(unittest.TestCase):
    def test_an_axiom_that_is_not_broken(self):
        axiom = line(2, 0, 2, 1)
        got = ask(axiom, check((2, 0), (0, 0, 0)), check((2, 0), (2, 0, 0)), check((2, 0), (3, 0, 0)))
        self.assertEqual(got, [[0], [2, 0], [2, 0], [2, 0]])
        # Of the two axioms type 2 breaks just the second one.
        got = ask(line(2, 0, 1), line(2, 1, 1), check((2, 1), (2, 0, 0)), check((2, 1), (3, 0, 0), (2, 0, 1)))
        self.assertEqual(got[2:], [[2, 0], [0]])

    def test_an_axiom_that_is_not_there(self):
        got = ask(check((2, 0), (1, 0, 0)), line(2, 0, 1), check((2, 0), (1, 0, 1)), check((2, 0), (1, 0, MOST)))
        self.assertEqual(got, [[2, 0], [0], [2, 0], [2, 0]])
        got = ask(line(2, 0, 1), line(2, 0, 1), check((2, 0), (1, 0, 1)), drop(0), check((2, 0), (1, 0, 1)))
        self.assertEqual(got[2:], [[0], [1], [2, 0]])

    def test_an_atom_that_is_a_name(self):
        got = ask(check((2, 0), (1, 1, 0)), check((2, 0), (0, 1, 0)), line(2, 0, 1), check((2, 0), (1, 1, 0)))
        self.assertEqual(got, [[2, 0], [2, 0], [0], [2, 0]])

    def test_a_6_that_does_not_hold(self):
        self.assertEqual(ask(check((6, 0, 1), (0, 1, 0)), check((6, 0, 1), (1, 1, 0), (0, 1, 0))), [[2, 0], [2, 1]])

    def test_a_7_that_holds(self):
        concept = (5, 7, 0, 0)
        got = ask(check(concept, (1, 1, 0)), check(concept, (0, 1, 0), (1, 1, 0)), check((7, 0, 1), (1, 1, 0)))
        self.assertEqual(got, [[2, 0], [2, 1], [2, 0]])

    def test_an_atom_that_is_not_there(self):
        got = ask(check((6, 0, 1), (1, 1, 1)), check((6, 0, 1), (1, 1, MOST)), check((0,), (0, 1, 0)))
        self.assertEqual(got, [[2, 0]] * 3)

    def test_a_type_still_there_bears_it_out(self):
        # Each of the types 4 to 7 that is left bears atom 1 of type 3 out.
        for left in (4, 5, 6, 7):
            steps = [step for step in CHAIN_STEPS[:5] if step[0] != left]
            self.assertEqual(ask(*CHAIN, check((2, 0), *steps, (3, 1, 1)))[-1], [2, 4])
        self.assertEqual(ask(*CHAIN, check((2, 0), (3, 1, 1)))[-1], [2, 0])
        # Of a 7: a type without the name bears it out.
        self.assertEqual(ask(check((5, 7, 0, 2, 0), (2, 1, 0))), [[2, 0]])

    def test_a_type_of_the_other_role_does_not_count(self):
        # By role 1 it doesn't fit to those with name 0, by role 0 it does.
        concept = (3, 6, 0, 2, 0, 7, 1, 5, 2, 0)
        other = (3, 6, 1, 2, 0, 7, 1, 5, 2, 0)
        self.assertEqual(ask(check(concept, (5, 1, 0)), check(other, (5, 1, 0))), [[2, 0], [3, 7]])

    def test_it_bears_itself_out(self):
        # Type 1 breaks the axiom; then type 3 alone has the name.
        axiom = line(2, 0, 6, 0, 2, 0)
        self.assertEqual(ask(axiom, check((2, 0), (1, 0, 0), (3, 1, 1))), [[0], [2, 1]])
        # A 7 likewise: type 0 hasn't the name, and leads to such.
        self.assertEqual(ask(line(5, 2, 0, 5, 7, 0, 2, 0), check((5, 2, 0), (2, 0, 0), (0, 1, 1))), [[0], [2, 1]])


class First(unittest.TestCase):
    def test_1_before_2_at_the_same_step(self):
        got = ask(
            check((6, 0, 1), (2, 1, 1)), check((6, 0, 1), (MOST, 0, MOST)), check((6, 0, 1), (1, 1, 0), (1, 0, 0)),
            check((6, 0, 1), (1, 1, 0), (1, 1, 9)),
        )
        self.assertEqual(got, [[1, 0], [1, 0], [1, 1], [1, 1]])

    def test_an_earlier_step_before_a_later_one(self):
        got = ask(
            check((6, 0, 1), (0, 1, 0), (9, 1, 0)), check((6, 0, 1), (9, 1, 0), (0, 1, 0)),
            check((6, 0, 1), (1, 1, 0), (0, 0, 0), (1, 1, 0)), check((6, 0, 1), (1, 1, 0), (1, 1, 0), (0, 0, 0)),
        )
        self.assertEqual(got, [[2, 0], [1, 0], [2, 1], [1, 1]])

    def test_the_lowest_type_still_there(self):
        got = ask(
            check(SOME_AGAINST_ALL), check(SOME_AGAINST_ALL, (7, 1, 0)), check(SOME_AGAINST_ALL, (5, 1, 0)),
            check(SOME_AGAINST_ALL, (0, 1, 2), (2, 1, 2)), check((0,)), check((2, 0)), check((5, 2, 0)),
        )
        self.assertEqual(got, [[3, 5], [3, 5], [3, 7], [3, 5], [3, 0], [3, 1], [3, 0]])

    def test_the_steps_come_before_what_is_still_there(self):
        self.assertEqual(ask(check((2, 0), (0, 0, 0)), check((2, 0), (2, 0, 0))), [[2, 0], [1, 0]])


class Edges(unittest.TestCase):
    five = (4, 2, 0, 4, 2, 1, 4, 2, 2, 4, 2, 3, 6, 0, 0)

    def test_a_hundred_numbers(self):
        all_go = [(kind, 0, 0) for kind in reversed(range(32))]
        numbers = [number for step in all_go for number in step]
        got = ask(
            line(0, 1), check(self.five, *all_go), check(self.five, *all_go[:-1]), check(self.five, *all_go[:-2]),
            check(self.five, *all_go, (0, 0, 0)), checknone(self.five, *numbers, 0, 0, 0, 0),
        )
        self.assertEqual(got, [[0], [0], [0], [3, 1], [1, 32], [-3]])

    def test_five_axioms_and_five_atoms(self):
        axioms = (line(2, 0, 1), line(2, 1, 1), line(2, 2, 1), line(2, 3, 1), line(6, 0, 0, 1))
        steps = [(kind, 0, kind.bit_length() - 1) for kind in range(1, 32)]
        got = ask(*axioms, check((0,), *steps), check(self.five, *steps), check((2, 0), *steps, (0, 0, 4)))
        self.assertEqual(got[5:], [[3, 0], [0], [2, 31]])

    def test_five_rounds(self):
        concept = (6, 0, 6, 0, 6, 0, 6, 0, 6, 0, 1)
        steps = [(kind, 1, atom) for atom in (4, 3, 2, 1, 0) for kind in range(2 ** atom, 2 ** (atom + 1))]
        # Type 31 goes for atom 0 when all types with atom 1 are gone, not earlier; for atom 4 it goes at once.
        got = ask(check(concept, *steps), check(concept, (31, 1, 0)), check(concept, (31, 1, 4), (31, 1, 4)))
        self.assertEqual(got, [[0], [2, 0], [1, 1]])
        self.assertEqual(ask(check(concept, *steps, (0, 1, 0))), [[2, 31]])

    def test_nested_deep(self):
        got = ask(
            checknone([5] * 99 + [0]), checknone([5] * 98 + [0]), checknone([3, 0] * 49 + [1]),
            check([6, 1] + [5] * 97 + [0], (1, 1, 0)), check([6, 1] + [5] * 97 + [1], (1, 1, 0)),
            checknone([5] * 100), checknone([6, 0] * 49 + [0]), check([5] * 98 + [2, 3], (0, 1, 0)),
        )
        self.assertEqual(got, [[0], [3, 0], [0], [0], [2, 0], [-1], [-7], [2, 0]])


class Refusals(unittest.TestCase):
    def test_a_number_is_left_over(self):
        got = ask(
            checknone((6, 0, 1), 1), checknone((6, 0, 1), 1, 1), checknone((6, 0, 1), 1, 1, 0, 0),
            checknone((6, 0, 1), 1, 1, 0, 1, 1), checknone((1,), 0), checknone((6, 0, 1), 9, 1, 0, 9),
            checknone((6, 0, 1), 0, 0, 0, 0, 0),
        )
        self.assertEqual(got, [[-3]] * 7)

    def test_a_steps_second_number_is_above_1(self):
        got = ask(
            checknone((6, 0, 1), 1, 2, 0), checknone((6, 0, 1), 1, MOST, 0), checknone((6, 0, 1), 1, 1, 0, 0, 2, 0),
            checknone((6, 0, 1), 9, 1, 0, 0, 3, 0), checknone((6, 0, 1), 0, 0, 0, 9, 1, 0, 1, 2, 0),
            checknone((1,), 0, 2, 0), checknone((6, 0, 1), 1, 2, 0, 1, 1, 0), checknone((6, 0, 1), MOST, 2, MOST),
        )
        self.assertEqual(got, [[-3]] * 8)

    def test_other_numbers_may_be_above_1(self):
        self.assertEqual(ask(checknone((6, 0, 1), MOST, 1, MOST), checknone((2, 0), 1, 0, MOST)), [[1, 0], [2, 0]])

    def test_not_just_a_concept(self):
        for numbers in NOT_JUST_A_CONCEPT:
            with self.subTest(numbers=numbers):
                calls = [checknone(numbers, *steps) for steps in ((), (1, 0, 0), (1,), (1, 2, 0))]
                self.assertEqual(ask(line(2, 0, 1), *calls, none(2, 0)), [[0], *[[-1]] * 4, [1, 1, 0, 0]])

    def test_too_many_atoms(self):
        got = ask(
            checknone(SIX_ATOMS), checknone(SIX_ATOMS, 1), checknone(SIX_ATOMS, 0, 2, 0), checknone(SIX_ATOMS, 0, 1, 9),
            line(3, 2, 0, 2, 1, 3, 2, 2, 2, 3), checknone((6, 0, 1)), checknone((6, 0, 6, 0, 1)),
        )
        self.assertEqual(got, [[-7]] * 4 + [[0], [3, 16], [-7]])

    def test_not_a_concept_comes_first(self):
        got = ask(checknone(SIX_ATOMS + (0,)), checknone(SIX_ATOMS[:-2], 1), checknone(SIX_ATOMS + (0,), 0, 2, 0))
        self.assertEqual(got, [[-1]] * 3)

    def test_a_refusal_changes_nothing(self):
        got = ask(
            line(2, 0, 1), checknone((8,)), checknone(SIX_ATOMS), checknone((2, 0), 1), checknone((2, 0), 1, 2, 0),
            check((2, 0), (1, 0, 0)), check((2, 0), (1, 0, 0)), none(2, 0), drop(1),
        )
        self.assertEqual(got, [[0], [-1], [-7], [-3], [-3], [0], [0], [1, 1, 0, 0], [-2]])
