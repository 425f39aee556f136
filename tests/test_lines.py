"""A line as a whole: how it's answered, and that nothing is changed or kept."""

import unittest

from tests.helper import (
    BEGIN, BRINGS, DARE, DAY, DROP, FINE, FROM, LOOK, LOOKS, MISDEEDS, TOP, WORTH, flat, split,
)
from unlikedays.days import answers

LONG = [[BEGIN, 1, 1, 1], [DAY, 1], [DAY, 1]] + [[FROM, 0, 1, 1]] * 56 + [[WORTH]]

MIXED = [
    [WORTH], [BEGIN, 1, 1, 0], [DROP], [BEGIN, 1, 1, 2], [DAY, 1], [DAY, 3], [WORTH], [LOOK], [DARE],
    [BRINGS, 0, 2], [LOOKS, 0], [MISDEEDS, 2], [FINE, 3], [WORTH], [FROM, 1, 1, 1], [DROP],
    [BRINGS, TOP, TOP], [DAY, TOP],
]
MIXED_TOLD = [
    1, -11, 1, -22, 1, -11, 1, 0, 1, 0, 1, 1, 3, 0, 1, 2, 3, 0, 1, 6, 3, 0, 1, 2,
    1, 1, 1, 1, 1, 1, 1, 2, 3, 0, 5, 1, 3, 0, 0, 1, 1, 1,
    1, -2, 1, -22,
]


class Lines(unittest.TestCase):
    def test_how_many_numbers_then_these(self):
        self.assertEqual(answers([BEGIN, 1, 1, 1]), [1, 0])
        self.assertEqual(answers(flat(MIXED)), MIXED_TOLD)

    def test_one_call(self):
        self.assertEqual(answers([WORTH]), [1, -11])

    def test_sixty_calls(self):
        self.assertEqual(len(LONG), 60)
        self.assertEqual(split(answers(flat(LONG))), [[0], [0], [1]] + [[0, 1, 3]] * 57)

    def test_sixty_calls_with_most_numbers(self):
        calls = [BEGIN, 5, 5, 3] * 60
        self.assertEqual(len(calls), 240)
        self.assertEqual(answers(calls), [1, 0] * 60)
        self.assertEqual(answers([FROM, TOP, TOP, TOP] * 60), [1, -11] * 60)

    def test_what_is_handed_in_stays(self):
        for calls in (LONG, MIXED):
            line = flat(calls)
            before = list(line)
            answers(line)
            self.assertEqual(line, before)

    def test_what_is_handed_in_is_not_changed_for_a_while_either(self):
        class Sealed(list):
            def sealed(self, *given):
                raise AssertionError("changed")

            append = extend = insert = pop = remove = clear = sort = reverse = sealed
            __setitem__ = __delitem__ = __iadd__ = __imul__ = sealed

        self.assertEqual(answers(Sealed(flat(MIXED))), MIXED_TOLD)

    def test_nothing_is_kept(self):
        first = answers(flat(MIXED))
        self.assertEqual(answers([WORTH]), [1, -11])
        self.assertEqual(answers([BEGIN, 0, 5, 1, DAY, 3]), [1, 0, 1, 0])
        self.assertEqual(answers(flat(MIXED)), first)

    def test_what_is_given_back_is_a_new_list(self):
        line = flat(MIXED)
        first = answers(line)
        first.clear()
        self.assertEqual(answers(line), MIXED_TOLD)

    def test_whole_numbers_and_a_list(self):
        told = answers(flat(MIXED))
        self.assertIs(type(told), list)
        self.assertEqual({type(number) for number in told}, {int})
