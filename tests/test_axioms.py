"""begins, line and drop: point 1, and what the words say of them."""

import unittest

from tests.helper import MOST, ask, begins, drop, line, none, proof


class Begins(unittest.TestCase):
    def test_at_the_beginning(self):
        self.assertEqual(ask(begins()), [[0]])

    def test_twice(self):
        self.assertEqual(ask(begins(), begins()), [[0], [0]])

    def test_after_axioms_there_are_none(self):
        got = ask(line(2, 0, 1), line(0, 2, 1), begins(), drop(0), line(2, 1, 2, 2))
        self.assertEqual(got, [[0], [1], [0], [-2], [0]])

    def test_after_axioms_none_knows_nothing_of_them(self):
        got = ask(line(2, 0, 1), none(2, 0), begins(), none(2, 0))
        self.assertEqual(got, [[0], proof((1, 0, 0)), [0], [-6]])

    def test_makes_room_for_five_again(self):
        axiom = line(2, 0, 2, 1)
        got = ask(*[axiom] * 6, begins(), *[axiom] * 6)
        self.assertEqual(got, [[0], [1], [2], [3], [4], [-7], [0], [0], [1], [2], [3], [4], [-7]])


class Line(unittest.TestCase):
    def test_counts_from_0(self):
        got = ask(line(2, 0, 2, 1), line(2, 1, 2, 2), line(6, 1, 2, 3, 0))
        self.assertEqual(got, [[0], [1], [2]])

    def test_takes_each_sort_of_concept(self):
        for concept in ((0,), (1,), (2, 3), (3, 0, 1), (4, 2, 0, 1), (5, 0), (6, 1, 0), (7, 0, 2, 3)):
            with self.subTest(concept=concept):
                self.assertEqual(ask(line(*concept, 0), line(0, *concept)), [[0], [1]])

    def test_the_same_axiom_again_is_another_one(self):
        self.assertEqual(ask(line(0, 0), line(0, 0)), [[0], [1]])

    def test_first_falls_under_second(self):
        got = ask(line(2, 0, 2, 1), none(3, 2, 0, 5, 2, 1), none(3, 2, 1, 5, 2, 0))
        self.assertEqual(got, [[0], proof((1, 0, 0)), [-6]])

    def test_not_just_two_concepts(self):
        wrong = (
            (), (0,), (2, 0), (6, 0, 0), (0, 0, 0), (2, 0, 2, 1, 0), (2, 4, 0), (0, 2, 4), (6, 2, 0, 0),
            (0, 7, 2, 0), (8, 0), (0, 8), (0, 3, 0), (0, 2), (0, 5), (0, 6), (0, 6, 1), (3, 0, 0), (0, 4, 0),
            (MOST, 0), (0, MOST), (2, MOST, 0), (0, 2, MOST), (6, MOST, 0, 0), (0, 7, MOST, 0), (0, 0, MOST),
        )
        for numbers in wrong:
            with self.subTest(numbers=numbers):
                self.assertEqual(ask(line(*numbers), line(0, 0)), [[-1], [0]])

    def test_the_highest_name_and_role(self):
        self.assertEqual(ask(line(2, 3, 6, 1, 0), line(7, 1, 0, 2, 3)), [[0], [1]])

    def test_five_axioms_and_one_more(self):
        got = ask(*[line(2, 0, 2, 1)] * 6, drop(4), line(0, 0), line(0, 0))
        self.assertEqual(got, [[0], [1], [2], [3], [4], [-7], [4], [4], [-7]])

    def test_five_atoms_and_one_more_in_one_axiom(self):
        five = (3, 2, 0, 3, 2, 1, 3, 2, 2, 2, 3)
        self.assertEqual(ask(line(*five, 6, 0, 0)), [[0]])
        self.assertEqual(ask(line(*five, 6, 0, 6, 0, 0)), [[-7]])
        self.assertEqual(ask(line(*five, 3, 6, 0, 0, 6, 1, 0)), [[-7]])
        self.assertEqual(ask(line(3, 3, 6, 0, 0, 6, 1, 0, 7, 0, 0, 3, 7, 1, 0, 3, 2, 0, 2, 1)), [[-7]])

    def test_five_atoms_and_one_more_over_axioms(self):
        got = ask(line(2, 0, 2, 1), line(2, 2, 2, 3), line(0, 7, 0, 0), line(0, 7, 1, 0), line(2, 3, 7, 0, 0))
        self.assertEqual(got, [[0], [1], [2], [-7], [3]])

    def test_an_atom_counts_once(self):
        got = ask(line(3, 6, 0, 2, 0, 2, 0, 6, 0, 2, 0), line(2, 0, 2, 1), line(2, 2, 2, 3), line(2, 3, 7, 0, 0))
        self.assertEqual(got, [[0], [1], [2], [-7]])

    def test_an_atom_is_told_by_how_it_stands(self):
        names = line(3, 2, 0, 2, 1, 4, 2, 2, 2, 3)
        self.assertEqual(ask(names, line(0, 6, 0, 2, 0), line(0, 6, 0, 2, 0)), [[0], [1], [2]])
        for other in ((6, 1, 2, 0), (7, 0, 2, 0), (6, 0, 2, 1), (6, 0, 5, 5, 2, 0)):
            with self.subTest(other=other):
                self.assertEqual(ask(names, line(0, 6, 0, 2, 0), line(0, *other)), [[0], [1], [-7]])

    def test_atoms_of_dropped_axioms_do_not_count(self):
        got = ask(line(3, 2, 0, 2, 1, 4, 2, 2, 2, 3), line(0, 7, 0, 0), line(0, 7, 1, 0), drop(1), line(0, 7, 1, 0))
        self.assertEqual(got, [[0], [1], [-7], [1], [1]])

    def test_not_concepts_comes_before_too_many(self):
        full = [line(0, 0)] * 5
        self.assertEqual(ask(*full, line(0), line(0, 0))[5:], [[-1], [-7]])
        many = (3, 6, 0, 0, 3, 6, 1, 0, 7, 0, 0, 3, 7, 1, 0, 3, 2, 0, 2, 1)
        self.assertEqual(ask(line(*many), line(*many, 0), line(*many[:-2])), [[-7], [-1], [-1]])

    def test_deep_concepts(self):
        deep = [5] * 49 + [0]
        self.assertEqual(ask(line(*deep, *deep), line(*[5] * 98, 0, 0), line(0, *[5] * 98, 0)), [[0], [1], [2]])
        self.assertEqual(ask(line(*[5] * 99, 0)), [[-1]])
        self.assertEqual(ask(line(*[5] * 100)), [[-1]])
        self.assertEqual(ask(line(*[3] * 49, *[0] * 51)), [[0]])
        self.assertEqual(ask(line(*[3, 0] * 49, 0, 0)), [[0]])
        self.assertEqual(ask(line(*[6, 0] * 49, 0, 0)), [[-7]])

    def test_a_refusal_changes_nothing(self):
        six_atoms = line(2, 1, 6, 0, 6, 0, 6, 0, 6, 0, 0)
        got = ask(line(2, 0, 1), line(0), line(2, 0, 2, 4), six_atoms, none(2, 0), drop(1))
        self.assertEqual(got, [[0], [-1], [-1], [-7], proof((1, 0, 0)), [-2]])


class Drop(unittest.TestCase):
    # Each axiom says of one name that nothing has it, so what none answers shows which axioms are there.
    three = (line(2, 0, 1), line(2, 1, 1), line(2, 2, 1))

    def test_the_first(self):
        got = ask(*self.three, drop(0), none(2, 1))
        self.assertEqual(got[3:], [[2], proof((1, 0, 0), (2, 0, 1), (3, 0, 0))])

    def test_a_middle_one(self):
        got = ask(*self.three, drop(1), none(2, 2))
        self.assertEqual(got[3:], [[2], proof((1, 0, 0), (2, 0, 1), (3, 0, 0))])
        self.assertEqual(ask(*self.three, drop(1), none(2, 1))[-1], [-6])

    def test_the_last(self):
        got = ask(*self.three, drop(2), none(2, 0), none(2, 2))
        self.assertEqual(got[3:], [[2], proof((1, 0, 0), (2, 0, 1), (3, 0, 0)), [-6]])

    def test_all_of_them(self):
        got = ask(*self.three, drop(0), drop(0), drop(0), drop(0), line(0, 0))
        self.assertEqual(got[3:], [[2], [1], [0], [-2], [0]])

    def test_what_is_not_there(self):
        self.assertEqual(ask(drop(0)), [[-2]])
        got = ask(*self.three, drop(3), drop(MOST), drop(4), drop(2), drop(2), none(2, 1))
        self.assertEqual(got[3:], [[-2], [-2], [-2], [2], [-2], proof((1, 0, 0), (2, 0, 1), (3, 0, 0))])

    def test_the_next_line_comes_last(self):
        got = ask(*self.three, drop(0), line(2, 3, 1), none(2, 3))
        steps = ((1, 0, 0), (2, 0, 1), (3, 0, 0), (4, 0, 2), (5, 0, 0), (6, 0, 1), (7, 0, 0))
        self.assertEqual(got[3:], [[2], [2], proof(*steps)])
