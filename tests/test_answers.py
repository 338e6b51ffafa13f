"""The interface: what answers takes and gives back, and that it changes and keeps nothing."""

import contextlib
import io
import unittest

from believedkinds.house import UnknownCall, answers
from tests.helper import ask, begins, can, checkmodel, checknone, drop, line, model, none, proof, told


class Unchanging(list):
    """A list that complains as soon as anybody would change it, be it for a while."""

    def complain(self, *given):
        raise AssertionError("the list that was handed in is being changed")

    append = extend = insert = pop = remove = clear = sort = reverse = complain
    __setitem__ = __delitem__ = __iadd__ = __imul__ = complain


HANDED = (
    begins() + line(2, 0, 6, 0, 2, 1) + line(2, 1, 1) + none(2, 0) + can(2, 0) + model(2, 0)
    + checknone((2, 0), 1, 0, 0, 3, 1, 1) + checknone((2, 3)) + checkmodel((2, 0), [1, 0, 1], [2])
    + line(0) + drop(1) + none(2, 0) + can(2, 0) + model(2, 0)
    + checkmodel((2, 0), [1, 0, 1], [2]) + checkmodel((2, 0)) + checkmodel((2, 0), [1, 0, 1], []) + checknone((2, 0), 1)
    + drop(7) + none(5, 5)
)
ANSWERED = [
    1, 0, 1, 0, 1, 1,
    22, 7, 1, 0, 0, 4, 0, 1, 5, 0, 0, 6, 0, 1, 7, 0, 1, 2, 1, 1, 3, 1, 1,
    1, 0, 1, -6,
    2, 2, 1, 2, 3, 8, 3, 3, 1, 1,
    1, -1, 1, 1, 1, -6, 1, 1,
    7, 2, 1, 1, 0, 1, 2, 0,
    1, 0, 1, 1, 1, -3, 1, -3,
    1, -2, 1, -1,
]
# Each of the eight calls, with its numbers as the interface tells them, and what it answers to that in a new house.
ALONE = (
    ([0, 0, 0], [1, 0]),
    ([1, 0, 1, 2, 0, 0], [1, 0]),
    ([1, 0, 1, 0], [1, -1]),
    ([2, 1, 0, 0], [1, -2]),
    ([3, 0, 1, 1, 1], [1, 0]),
    ([3, 0, 1, 0], [1, -1]),
    ([3, 0, 1, 3, 6, 0, 1], [4, 1, 1, 1, 0]),
    ([4, 0, 1, 1, 0], [3, 1, 0, 0]),
    ([4, 0, 1, 0], [1, -1]),
    ([4, 0, 1, 4, 6, 1, 2, 0], [7, 2, 0, 1, 1, 1, 1, 0]),
    ([5, 0, 2, 1, 1, 0], [1, 0]),
    ([5, 0, 2, 0, 0], [1, -1]),
    ([5, 0, 2, 3, 6, 0, 1, 3, 1, 1, 0], [1, 0]),
    ([5, 0, 2, 3, 6, 0, 1, 3, 0, 1, 0], [2, 2, 0]),
    ([5, 0, 2, 3, 6, 0, 1, 0], [2, 3, 1]),
    ([6, 0, 1, 1, 0], [1, 1]),
    ([6, 0, 1, 0], [1, -1]),
    ([6, 0, 2, 1, 0, 0], [1, -3]),
    ([6, 0, 2, 2, 2, 3, 1, 8], [1, 0]),
    ([6, 0, 3, 2, 2, 3, 1, 8, 3, 0, 0, 2], [2, 2, 1]),
    ([6, 0, 2, 2, 2, 3, 1, 7], [1, 4]),
    ([7, 0, 1, 1, 0], [1, 1]),
    ([7, 0, 1, 1, 1], [1, 0]),
    ([7, 0, 1, 0], [1, -1]),
)


class Answers(unittest.TestCase):
    def test_each_answer_with_its_count(self):
        # Atoms: name 0, 6 to name 1, name 1; so types from 4 on break axiom 1, types 1 and 5 axiom 0. With name 3
        # behind these there are 16 types, and the lowest that has it is 8. Without axiom 1 the first thing is of
        # type 3, and comes to one of type 4.
        self.assertEqual(answers(list(HANDED)), ANSWERED)

    def test_one_call(self):
        for call, answered in ALONE:
            with self.subTest(call=call):
                self.assertEqual(answers(call), answered)

    def test_one_call_after_another(self):
        # begins is put ahead of each, so that each finds a new house.
        for start in range(0, len(ALONE), 8):
            row = ALONE[start:start + 8]
            calls = [number for call, answered in row for number in [0, 0, 0] + call]
            self.assertEqual(answers(calls), [number for call, answered in row for number in [1, 0] + answered])

    def test_sixty_calls_of_all_eight_sorts(self):
        row = [
            begins(), line(2, 0, 6, 0, 2, 1), none(2, 0), model(2, 0), can(2, 0), drop(0), line(2, 0, 1),
            checknone((2, 0), 1, 0, 0), checknone((2, 0)), checkmodel((5, 2, 0), [0, 0, 1], [2]), checkmodel((0,), [1]),
            none(2, 0), drop(1), checkmodel((2, 1), [0]), checkmodel((0,), []),
        ]
        expected = [
            [0], [0], [-6], told((1, (0, 1)), (2,)), [1], [0], [0],
            [0], [3, 1], [0], [3, 0, 0],
            proof((1, 0, 0)), [-2], [4], [-3],
        ]
        self.assertEqual(ask(*row), expected)
        # Four times over there would be too many of none, model and can.
        short = [call for call in row if call[0] not in (3, 4, 7)]
        kept = [answer for call, answer in zip(row, expected) if call[0] not in (3, 4, 7)]
        calls = row + row + row + short + [begins(), begins(), drop(0), line(0, 0)]
        self.assertEqual(len(calls), 60)
        self.assertEqual(ask(*calls), expected * 3 + kept + [[0], [0], [-2], [0]])

    def test_what_is_handed_in_stays_as_it_is(self):
        handed = Unchanging(HANDED)
        self.assertEqual(answers(handed), ANSWERED)
        self.assertEqual(list(handed), HANDED)

    def test_nothing_is_kept(self):
        handed = list(HANDED)
        first = answers(handed)
        first_again = list(first)
        first.clear()
        self.assertEqual(answers(handed), first_again)
        self.assertEqual(answers(line(2, 0, 1)), [1, 0])
        self.assertEqual(answers(line(2, 0, 1)), [1, 0])
        self.assertEqual(answers(none(2, 0)), [1, -6])
        self.assertEqual(answers(model(2, 0)), [3, 1, 1, 0])
        self.assertEqual(answers(can(2, 0)), [1, 1])
        self.assertEqual(answers(checknone((2, 0), 1, 0, 0)), [2, 2, 0])
        self.assertEqual(answers(checkmodel((2, 0), [1])), [1, 0])

    def test_whole_numbers_in_a_list(self):
        answered = answers(list(HANDED))
        self.assertIs(type(answered), list)
        self.assertEqual({type(number) for number in answered}, {int})

    def test_nothing_is_printed(self):
        with contextlib.redirect_stdout(io.StringIO()) as out, contextlib.redirect_stderr(io.StringIO()) as err:
            answers(list(HANDED))
        self.assertEqual(out.getvalue() + err.getvalue(), "")

    def test_no_such_call(self):
        with self.assertRaises(UnknownCall):
            answers([8, 0, 0])
