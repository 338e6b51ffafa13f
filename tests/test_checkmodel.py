"""checkmodel: point 2 as far as it speaks of it, and what's wrong first with a proof that there's one."""

import sys
import unittest

from tests.helper import MOST, NOT_JUST_A_CONCEPT, SIX_ATOMS, ask, checkmodel, drop, line, model, none, things_told


class Right(unittest.TestCase):
    def test_what_model_answers(self):
        circle = (line(2, 0, 6, 0, 5, 2, 0), line(5, 2, 0, 6, 0, 2, 0))
        cases = (
            ((), (0,)), ((), (2, 3)), ((), (6, 0, 2, 0)), ((), (5, 7, 1, 2, 1)), ((), (3, 6, 0, 2, 0, 6, 1, 2, 0)),
            ((), (3, 6, 0, 6, 0, 2, 0, 6, 1, 2, 1)), (circle, (2, 0)), (circle, (5, 2, 0)),
            ((line(2, 0, 2, 1),), (6, 0, 2, 0)), ((line(0, 6, 1, 2, 0),), (2, 0)),
        )
        for axioms, concept in cases:
            with self.subTest(concept=concept):
                things = things_told(ask(*axioms, model(*concept))[-1])
                self.assertEqual(ask(*axioms, checkmodel(concept, *things))[-1], [0])

    def test_names(self):
        for name in range(4):
            for names in range(16):
                held = names // 2 ** name % 2 == 1
                self.assertEqual(ask(checkmodel((2, name), [names])), [[0] if held else [4]])

    def test_each_sort_of_concept(self):
        got = ask(
            checkmodel((0,), [0]), checkmodel((3, 2, 0, 2, 1), [3]), checkmodel((4, 2, 0, 2, 1), [2]),
            checkmodel((4, 2, 1, 2, 0), [2]), checkmodel((5, 2, 0), [2]), checkmodel((6, 0, 2, 0), [1, 0, 0]),
            checkmodel((6, 1, 2, 0), [0, 1, 1], [1]), checkmodel((7, 0, 2, 0), [0, 0, 1], [1]),
            checkmodel((7, 0, 1), [0]), checkmodel((7, 0, 1), [0, 1, 0]),
        )
        self.assertEqual(got, [[0]] * 10)

    def test_some_and_all(self):
        # From the first thing one comes by role 0 to the second and third thing, by role 1 to the third.
        things = ([0, 0, 1, 0, 2, 1, 2], [1], [3])
        right = ((6, 0, 2, 0), (6, 0, 2, 1), (6, 1, 2, 1), (7, 0, 2, 0), (7, 1, 2, 1), (5, 7, 0, 2, 1), (6, 0, 5, 2, 1))
        wrong = ((5, 6, 0, 2, 0), (6, 0, 2, 2), (6, 1, 5, 2, 0), (7, 0, 2, 1), (7, 1, 2, 2), (5, 7, 0, 2, 0), (7, 0, 1))
        self.assertEqual(ask(*[checkmodel(concept, *things) for concept in right]), [[0]] * 7)
        self.assertEqual(ask(*[checkmodel(concept, *things) for concept in wrong]), [[4]] * 7)

    def test_what_is_not_asked_may_be_there(self):
        got = ask(
            line(2, 0, 2, 1), checkmodel((2, 0), [15, 0, 0, 1, 0, 0, 0]), checkmodel((2, 0), [3], [0], [2]),
            checkmodel((2, 0), [3, 1, 2], [0, 0, 0], [7, 1, 0]),
        )
        self.assertEqual(got[1:], [[0]] * 3)

    def test_the_same_way_twice(self):
        self.assertEqual(ask(checkmodel((6, 0, 2, 0), [0, 0, 1, 0, 1, 0, 1], [1])), [[0]])

    def test_names_above_name_3(self):
        got = ask(
            checkmodel((2, 0), [16]), checkmodel((5, 2, 0), [16]), checkmodel((2, 3), [MOST]), checkmodel((2, 0), [17]),
            checkmodel((3, 2, 3, 5, 2, 0), [MOST - 1]), checkmodel((4, 4, 2, 0, 2, 1, 4, 2, 2, 2, 3), [MOST - 15]),
            line(2, 0, 1), checkmodel((0,), [MOST - 1]), checkmodel((0,), [MOST]), checkmodel((0,), [2 ** 31]),
        )
        self.assertEqual(got, [[4], [0], [0], [0], [0], [4], [0], [0], [3, 0, 0], [0]])


class Wrong(unittest.TestCase):
    def test_no_things(self):
        got = ask(checkmodel((0,)), checkmodel((1,)), line(0, 1), checkmodel((0,)), drop(0), checkmodel((2, 0)))
        self.assertEqual(got, [[1], [1], [0], [1], [0], [1]])

    def test_a_way_by_no_role(self):
        got = ask(
            checkmodel((0,), [0, 2, 0]), checkmodel((0,), [0, MOST, 0]), checkmodel((0,), [0], [0, 2, 0]),
            checkmodel((0,), [0, 0, 0, 1, 0, 2, 0]), checkmodel((0,), [0, 2, 0, 0, 0]), checkmodel((0,), [0, 1, 0]),
        )
        self.assertEqual(got, [[2, 0], [2, 0], [2, 1], [2, 0], [2, 0], [0]])

    def test_a_way_to_no_thing(self):
        got = ask(
            checkmodel((0,), [0, 0, 1]), checkmodel((0,), [0, 0, MOST]), checkmodel((0,), [0], [0, 1, 2]),
            checkmodel((0,), [0, 0, 0, 1, 1]), checkmodel((0,), [0, 0, 1], [0]), checkmodel((0,), [0, MOST, MOST]),
        )
        self.assertEqual(got, [[2, 0], [2, 0], [2, 1], [2, 0], [0], [2, 0]])

    def test_the_lowest_such_thing(self):
        got = ask(
            checkmodel((0,), [0], [0, 0, 3], [0, 2, 0]), checkmodel((0,), [0], [0, 2, 0], [0, 0, 3]),
            checkmodel((0,), [0], [0, 0, 0], [0, 0, 1, 0, 7]),
        )
        self.assertEqual(got, [[2, 1], [2, 1], [2, 2]])

    def test_a_broken_axiom(self):
        axiom = line(2, 0, 2, 1)
        got = ask(
            axiom, checkmodel((0,), [1]), checkmodel((0,), [3], [0], [5]), checkmodel((0,), [3], [2], [0]),
            checkmodel((0,), [0], [1]), checkmodel((0,), [0], [1], [1]),
        )
        self.assertEqual(got, [[0], [3, 0, 0], [3, 2, 0], [0], [3, 1, 0], [3, 1, 0]])

    def test_a_broken_axiom_with_ways(self):
        axiom = line(2, 0, 6, 0, 2, 1)
        got = ask(
            axiom, checkmodel((2, 0), [1]), checkmodel((2, 0), [1, 1, 1], [2]), checkmodel((2, 0), [1, 0, 1], [2]),
            checkmodel((2, 0), [1, 0, 1], [3]), checkmodel((2, 0), [1, 0, 1], [3, 0, 1]), line(0, 7, 0, 5, 2, 0),
            checkmodel((2, 0), [1, 0, 1], [3, 0, 1]),
        )
        self.assertEqual(got, [[0], [3, 0, 0], [3, 0, 0], [0], [3, 1, 0], [0], [1], [3, 0, 1]])

    def test_the_lowest_thing_and_of_it_the_lowest_axiom(self):
        axioms = (line(2, 0, 1), line(2, 1, 1), line(2, 2, 1))
        got = ask(
            *axioms, checkmodel((0,), [0], [2], [1]), checkmodel((0,), [0], [6], [1]), checkmodel((0,), [0], [7]),
            checkmodel((0,), [4], [1]), checkmodel((0,), [8], [8], [4]), checkmodel((0,), [5]), drop(0),
            checkmodel((0,), [0], [2]), checkmodel((0,), [0], [1]),
        )
        self.assertEqual(got[3:9], [[3, 1, 1], [3, 1, 1], [3, 1, 0], [3, 0, 2], [3, 2, 2], [3, 0, 0]])
        self.assertEqual(got[9:], [[2], [3, 1, 0], [0]])

    def test_the_first_thing_has_not_the_concept(self):
        got = ask(
            checkmodel((1,), [0]), checkmodel((2, 0), [2], [1]), checkmodel((6, 0, 0), [0, 1, 0]),
            checkmodel((7, 0, 2, 0), [1, 0, 1], [2]), checkmodel((3, 2, 0, 2, 1), [1]),
            checkmodel((4, 2, 0, 2, 1), [4]),
        )
        self.assertEqual(got, [[4]] * 6)

    def test_what_is_wrong_first(self):
        got = ask(
            line(2, 0, 1), checkmodel((1,), [1], [0, 2, 0]), checkmodel((1,), [0], [1]), checkmodel((1,), [0], [0]),
            checkmodel((1,), [1, 0, 2], [1]), checkmodel((1,)),
        )
        self.assertEqual(got, [[0], [2, 1], [3, 1, 0], [4], [2, 0], [1]])


class Edges(unittest.TestCase):
    def everywhere(self, names):
        """Ten things, from each by role 0 to all ten of them, and by role 1 to the first four: 29 numbers."""
        ways = [number for to in range(10) for number in (0, to)] + [number for to in range(4) for number in (1, to)]
        return [[names(thing), *ways] for thing in range(10)]

    def test_ten_things_of_thirty_numbers(self):
        things = self.everywhere(lambda thing: thing)
        self.assertEqual({len(thing) for thing in things}, {29})
        got = ask(
            checkmodel((3, 6, 0, 2, 3, 7, 1, 5, 2, 2), *things), checkmodel((6, 1, 2, 2), *things),
            checkmodel((0,), *things[:9], things[9][:-1] + [10]), checkmodel((0,), *things[:9], things[9] + [0]),
            line(2, 3, 5, 2, 0), checkmodel((0,), *things), checkmodel((0,), *things[:9], [8]), drop(0),
            checkmodel((0,), *things[:9], [0]), checkmodel((0,), *things[:9]),
        )
        self.assertEqual(got, [[0], [4], [2, 9], [-3], [0], [3, 9, 0], [0], [0], [0], [2, 0]])

    def test_in_circles_it_answers_at_once(self):
        # Whoever follows the ways one by one comes to 10 to the 5 ends from each thing, and none of them decides it.
        deep = (7, 0, 5, 6, 0, 5, 7, 0, 5, 6, 0, 5, 7, 0, 0)
        things = self.everywhere(lambda thing: 0)
        calls = [line(0, *deep), *[checkmodel(deep, *things)] * 40, checkmodel((5, *deep), *things)]
        work = 0

        def count(frame, event, given):
            nonlocal work
            work += event == "call"

        sys.setprofile(count)
        try:
            got = ask(*calls)
        finally:
            sys.setprofile(None)
        self.assertEqual(got, [[0]] * 41 + [[4]])
        self.assertLess(work, 400000)

    def test_a_circle_of_ten(self):
        # Only the thing four ways on from the first one has the name.
        things = [[1 if thing == 4 else 0, 0, (thing + 1) % 10] for thing in range(10)]
        four_on = (6, 0, 7, 0, 6, 0, 7, 0, 2, 0)
        got = ask(
            checkmodel(four_on, *things), checkmodel(four_on[2:], *things), checkmodel((5, *four_on), *things),
            checkmodel((6, 0, *four_on), *things),
        )
        self.assertEqual(got, [[0], [4], [4], [-7]])

    def test_five_axioms_and_five_atoms(self):
        axioms = (line(2, 0, 2, 1), line(2, 1, 2, 2), line(2, 2, 2, 3), line(2, 3, 6, 0, 2, 0), line(0, 0))
        got = ask(
            *axioms, checkmodel((2, 0), [15, 0, 0]), checkmodel((2, 0), [15]), checkmodel((2, 0), [15, 0, 1], [8]),
            checkmodel((2, 0), [15, 0, 0], [4]), checkmodel((2, 0), [15, 0, 0], [2]), checkmodel((2, 0), [0]),
        )
        self.assertEqual(got[5:], [[0], [3, 0, 3], [3, 0, 3], [3, 1, 2], [3, 1, 1], [4]])

    def test_nested_deep(self):
        got = ask(
            checkmodel([5] * 98 + [0], [0]), checkmodel([5] * 99 + [0], [0]), checkmodel([5] * 98 + [2, 3], [8]),
            checkmodel([3, 0] * 49 + [1], [0]), checkmodel([4] * 49 + [1] * 49 + [0], [0]),
            checkmodel([6, 1] + [5] * 96 + [2, 0], [0, 1, 1], [1]), checkmodel([7, 1] + [5] * 97 + [0], [0, 1, 0]),
            checkmodel([7, 1] + [5] * 97 + [0], [0]), checkmodel([5] * 100, [0]), checkmodel([6, 0] * 49 + [0], [0]),
        )
        self.assertEqual(got, [[0], [4], [0], [4], [0], [0], [4], [0], [-1], [-7]])


class Refusals(unittest.TestCase):
    def test_a_thing_without_names(self):
        got = ask(
            checkmodel((0,), []), checkmodel((0,), [0], []), checkmodel((0,), [], [0]), checkmodel((1,), []),
            checkmodel((0,), [0, 2, 0], []), checkmodel((0,), [0, 0, 9], [0], []),
            line(0, 1), checkmodel((0,), [0], []),
        )
        self.assertEqual(got, [[-3]] * 6 + [[0], [-3]])

    def test_a_number_left_over(self):
        got = ask(
            checkmodel((0,), [0, 0]), checkmodel((0,), [0, 0, 0, 1]), checkmodel((0,), [0], [0, 1]),
            checkmodel((0,), [0, 1], [0]), checkmodel((0,), [0, 2, 0], [0, 0]), checkmodel((1,), [0], [0] * 30),
            line(0, 1), checkmodel((0,), [0], [0, 0]),
        )
        self.assertEqual(got, [[-3]] * 6 + [[0], [-3]])

    def test_not_just_a_concept(self):
        for numbers in NOT_JUST_A_CONCEPT:
            with self.subTest(numbers=numbers):
                calls = (
                    checkmodel(numbers), checkmodel(numbers, [0]), checkmodel(numbers, []), checkmodel(numbers, [0, 0]),
                    checkmodel(numbers, [0, 2, 0]),
                )
                self.assertEqual(ask(line(2, 0, 1), *calls, none(2, 0)), [[0], *[[-1]] * 5, [1, 1, 0, 0]])

    def test_too_many_atoms(self):
        got = ask(
            checkmodel(SIX_ATOMS), checkmodel(SIX_ATOMS, [0]), checkmodel(SIX_ATOMS, []), checkmodel(SIX_ATOMS, [0, 0]),
            line(3, 2, 0, 2, 1, 3, 2, 2, 2, 3), checkmodel((6, 0, 0), [0, 0, 0]),
            checkmodel((6, 0, 6, 0, 0), [0, 0, 0]),
        )
        self.assertEqual(got, [[-7]] * 4 + [[0], [0], [-7]])

    def test_not_a_concept_comes_first(self):
        got = ask(checkmodel(SIX_ATOMS + (0,), [0]), checkmodel(SIX_ATOMS[:-2]), checkmodel(SIX_ATOMS + (0,), []))
        self.assertEqual(got, [[-1]] * 3)

    def test_a_refusal_changes_nothing(self):
        got = ask(
            line(2, 0, 1), checkmodel((8,), [0]), checkmodel(SIX_ATOMS, [0]), checkmodel((0,), []),
            checkmodel((0,), [0, 0]), checkmodel((5, 2, 0), [0]), checkmodel((5, 2, 0), [0]), none(2, 0), drop(1),
        )
        self.assertEqual(got, [[0], [-1], [-7], [-3], [-3], [0], [0], [1, 1, 0, 0], [-2]])
