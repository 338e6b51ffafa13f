"""The interface: what answers takes and gives back, and that it changes and keeps nothing."""

import unittest

from believedkinds.house import UnknownCall, answers
from tests.helper import begins, drop, line, none


class Unchanging(list):
    """A list that complains as soon as anybody would change it, be it for a while."""

    def complain(self, *given):
        raise AssertionError("the list that was handed in is being changed")

    append = extend = insert = pop = remove = clear = sort = reverse = complain
    __setitem__ = __delitem__ = __iadd__ = __imul__ = complain


HANDED = (
    begins() + line(2, 0, 6, 0, 2, 1) + line(2, 1, 1) + none(2, 0) + line(0) + drop(1) + none(2, 0) + drop(7)
    + none(5, 5)
)
ANSWERED = [
    1, 0, 1, 0, 1, 1,
    22, 7, 1, 0, 0, 4, 0, 1, 5, 0, 0, 6, 0, 1, 7, 0, 1, 2, 1, 1, 3, 1, 1,
    1, -1, 1, 1, 1, -6, 1, -2, 1, -1,
]


class Answers(unittest.TestCase):
    def test_each_answer_with_its_count(self):
        # Atoms: name 0, 6 to name 1, name 1; so types from 4 on break axiom 1, types 1 and 5 axiom 0.
        self.assertEqual(answers(list(HANDED)), ANSWERED)

    def test_one_call(self):
        self.assertEqual(answers([0, 0, 0]), [1, 0])
        self.assertEqual(answers([1, 0, 1, 2, 0, 0]), [1, 0])
        self.assertEqual(answers([1, 0, 1, 0]), [1, -1])
        self.assertEqual(answers([2, 1, 0, 0]), [1, -2])
        self.assertEqual(answers([3, 0, 1, 1, 1]), [1, 0])
        self.assertEqual(answers([3, 0, 1, 0]), [1, -1])
        self.assertEqual(answers([3, 0, 1, 3, 6, 0, 1]), [4, 1, 1, 1, 0])

    def test_what_is_handed_in_stays_as_it_is(self):
        handed = Unchanging(HANDED)
        self.assertEqual(answers(handed), ANSWERED)
        self.assertEqual(list(handed), HANDED)

    def test_nothing_is_kept(self):
        handed = list(HANDED)
        first = answers(handed)
        first_again = list(first)
        first.clear()
        self.assertEqual(answers(handed), first_again)
        self.assertEqual(answers(line(2, 0, 1)), [1, 0])
        self.assertEqual(answers(line(2, 0, 1)), [1, 0])
        self.assertEqual(answers(none(2, 0)), [1, -6])

    def test_whole_numbers_in_a_list(self):
        answered = answers(list(HANDED))
        self.assertIs(type(answered), list)
        self.assertEqual({type(number) for number in answered}, {int})

    def test_no_such_call(self):
        with self.assertRaises(UnknownCall):
            answers([8, 0, 0])
