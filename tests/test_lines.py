"""A line as a whole: how it's answered, and that nothing is changed or kept."""

import unittest
from random import Random

from tests.helper import (
    BEGIN, BRINGS, BROUGHT, CAUGHT, DARE, DAREFROM, DAY, DROP, FINE, FIRSTDAY, FOUR, FROM, IFBRINGS, IFFINE, IFLOOKS,
    LOOK, LOOKFROM, LOOKS, MISDEEDS, TOLD, TOP, WITHOUT, WORTH, cases, flat, second_chances, second_course,
    second_first_day, second_worth, split,
)
from unlikedays.days import answers

LONG = [[BEGIN, 1, 1, 1], [DAY, 1], [DAY, 1]] + [[FROM, 0, 1, 1]] * 56 + [[WORTH]]

MIXED = [
    [WORTH], [BEGIN, 1, 1, 0], [DROP], [BEGIN, 1, 1, 2], [DAY, 1], [DAY, 3], [WORTH], [LOOK], [DARE],
    [BRINGS, 0, 2], [LOOKS, 0], [MISDEEDS, 2], [FINE, 3], [WORTH], [FROM, 1, 1, 1], [DROP],
    [BRINGS, TOP, TOP], [DAY, TOP],
]
MIXED_TOLD = [
    1, -11, 1, -22, 1, -11, 1, 0, 1, 0, 1, 1, 3, 0, 1, 2, 3, 0, 1, 6, 3, 0, 1, 2,
    1, 1, 1, 1, 1, 1, 1, 2, 3, 0, 5, 1, 3, 0, 0, 1, 1, 1,
    1, -2, 1, -22,
]

# Sixty calls of all kinds, each with what it answers, worked out by hand.
EVERY = (
    ([TOLD], [-11]), ([BEGIN, 1, 1, 0], [-22]), ([FOUR], [-11]), ([BEGIN, 1, 1, 2], [0]), ([TOLD], [0, 1, 1, 2]),
    ([FIRSTDAY], [-33]), ([FOUR], [-6]), ([LOOK], [-6]), ([DARE], [-6]), ([DROP], [-6]),
    ([CAUGHT], [0, 0, 1]), ([BROUGHT], [0, 0, 1]), ([WITHOUT, 0], [-2]), ([DAY, 1], [0]), ([DAY, 3], [1]),
    ([WORTH], [0, 1, 2]), ([LOOK], [0, 1, 6]), ([DARE], [0, 1, 2]), ([FOUR], [0, -2, 1, 3, 1, 1, 1, 0, 1]),
    ([CAUGHT], [0, 1, 12]), ([BROUGHT], [0, 2, 3]), ([FIRSTDAY], [0]), ([FROM, 1, 0, 1], [0, 3, 1]),
    ([LOOKFROM, 0, 1, 5], [0, 1, 6]), ([DAREFROM, 1, 0, 1], [0, 1, 1]), ([FROM, 2, 6, 6], [-2]),
    ([LOOKFROM, 1, 6, 0], [-22]), ([DAREFROM, 2, 0, 0], [-2]), ([IFBRINGS, 0, 3], [0, 9, 8]),
    ([IFBRINGS, 2, 4], [-2]), ([IFBRINGS, 1, 4], [-22]), ([IFLOOKS, 0], [0, 3, 1]), ([IFLOOKS, 6], [-22]),
    ([IFFINE, 3], [0, 3, 7]), ([IFFINE, 0], [-22]), ([WITHOUT, 1], [0, 0, 1]), ([TOLD], [2, 1, 1, 2, 1, 3]),
    ([DAY, 4], [-22]), ([DAY, 0], [2]), ([WITHOUT, 2], [0, 1, 2]), ([DAY, 0], [3]), ([DAY, 3], [-28]),
    ([TOLD], [4, 1, 1, 2, 1, 3, 0, 0]), ([WORTH], [0, 1, 2]), ([DROP], [3]), ([DROP], [2]), ([BRINGS, 0, 3], [1]),
    ([BRINGS, 1, 1], [3]), ([BRINGS, 1, TOP], [-22]), ([WORTH], [0, 1, 2]), ([LOOKS, 0], [1]), ([MISDEEDS, 5], [1]),
    ([FINE, 3], [2]), ([FINE, 4], [-22]), ([BROUGHT], [0, 4, 1]), ([CAUGHT], [0, 0, 1]), ([FOUR], [-6]),
    ([BEGIN, 0, 6, 1], [-22]), ([TOLD], [2, 0, 5, 3, 3, 1]), ([BEGIN, 5, 0, 1], [0]),
)


class Lines(unittest.TestCase):
    def test_how_many_numbers_then_these(self):
        self.assertEqual(answers([BEGIN, 1, 1, 1]), [1, 0])
        self.assertEqual(answers(flat(MIXED)), MIXED_TOLD)

    def test_one_call(self):
        self.assertEqual(answers([WORTH]), [1, -11])

    def test_sixty_calls(self):
        self.assertEqual(len(LONG), 60)
        self.assertEqual(split(answers(flat(LONG))), [[0], [0], [1]] + [[0, 1, 3]] * 57)

    def test_sixty_calls_of_all_kinds(self):
        calls = [call for call, told in EVERY]
        self.assertEqual((len(calls), {call[0] for call in calls}), (60, set(range(22))))
        line = flat(calls)
        before = list(line)
        found = answers(line)
        self.assertEqual(split(found), [told for call, told in EVERY])
        self.assertEqual(line, before)
        self.assertEqual(answers(line), found)

    def test_sixty_calls_that_tell_most(self):
        laid = [BEGIN, 3, 5, 3, DAY, 1, DAY, 2, DAY, 3, DAY, 2]
        self.assertEqual(answers(laid + [CAUGHT] * 55)[10:], answers(laid + [CAUGHT])[10:] * 55)
        self.assertEqual(answers(laid + [TOLD] * 55)[10:], [8, 4, 3, 5, 3, 1, 2, 3, 2] * 55)

    def test_sixty_calls_with_most_numbers(self):
        calls = [BEGIN, 5, 5, 3] * 60
        self.assertEqual(len(calls), 240)
        self.assertEqual(answers(calls), [1, 0] * 60)
        self.assertEqual(answers([FROM, TOP, TOP, TOP] * 60), [1, -11] * 60)

    def test_what_is_handed_in_stays(self):
        for calls in (LONG, MIXED, [call for call, told in EVERY]):
            line = flat(calls)
            before = list(line)
            answers(line)
            self.assertEqual(line, before)

    def test_what_is_handed_in_is_not_changed_for_a_while_either(self):
        class Sealed(list):
            def sealed(self, *given):
                raise AssertionError("changed")

            append = extend = insert = pop = remove = clear = sort = reverse = sealed
            __setitem__ = __delitem__ = __iadd__ = __imul__ = sealed

        self.assertEqual(answers(Sealed(flat(MIXED))), MIXED_TOLD)
        every = Sealed(flat(call for call, told in EVERY))
        self.assertEqual(split(answers(every)), [told for call, told in EVERY])

    def test_nothing_is_kept(self):
        first = answers(flat(MIXED))
        self.assertEqual(answers([WORTH]), [1, -11])
        self.assertEqual(answers([BEGIN, 0, 5, 1, DAY, 3]), [1, 0, 1, 0])
        self.assertEqual(answers(flat(MIXED)), first)

    def test_what_is_given_back_is_a_new_list(self):
        line = flat(MIXED)
        first = answers(line)
        first.clear()
        self.assertEqual(answers(line), MIXED_TOLD)

    def test_whole_numbers_and_a_list(self):
        for calls in (MIXED, [call for call, told in EVERY]):
            told = answers(flat(calls))
            self.assertIs(type(told), list)
            self.assertEqual({type(number) for number in told}, {int})


def told_as(*values):
    return [0] + [number for value in values for number in (value.numerator, value.denominator)]


class SecondObject:
    """The object once more, by the document's words and the second way."""

    def __init__(self):
        self.begun = False

    def answer(self, number, *given):
        if number == BEGIN:
            return self.begin(*given)
        if not self.begun:
            return [-11]
        refusal = self.refusal(number, *given)
        if refusal is not None:
            return [refusal]
        return self.changed(number, *given) if number <= FINE else self.asked(number, *given)

    def begin(self, looks, misdeeds, fine):
        if looks > 5 or misdeeds > 5 or fine not in (1, 2, 3):
            return [-22]
        self.begun = True
        self.held = {LOOKS: looks, MISDEEDS: misdeeds, FINE: fine}
        self.brings = ()
        return [0]

    def refusal(self, number, *given):
        if number in (BRINGS, FROM, LOOKFROM, DAREFROM, IFBRINGS, WITHOUT) and given[0] >= len(self.brings):
            return -2
        if number in (DAY, BRINGS, IFBRINGS) and given[-1] > 3:
            return -22
        if number in (LOOKS, MISDEEDS, IFLOOKS) and given[0] > 5:
            return -22
        if number in (FROM, LOOKFROM, DAREFROM) and max(given[1:]) > 5:
            return -22
        if number in (FINE, IFFINE) and given[0] not in (1, 2, 3):
            return -22
        if number == DAY and len(self.brings) == 4:
            return -28
        if number in (DROP, LOOK, DARE, FOUR) and not self.brings:
            return -6
        if number == FOUR and 0 in (self.held[LOOKS], self.held[MISDEEDS]):
            return -6
        return None

    def changed(self, number, *given):
        if number == DAY:
            self.brings += given
            return [len(self.brings) - 1]
        if number == DROP:
            self.brings = self.brings[:-1]
            return [len(self.brings)]
        if number == BRINGS:
            before = self.brings[given[0]]
            self.brings = self.with_day(*given)
            return [before]
        before = self.held[number]
        self.held[number] = given[0]
        return [before]

    def with_day(self, day, *brought):
        return self.brings[:day] + brought + self.brings[day + 1:]

    def asked(self, number, *given):
        brings, fine = self.brings, self.held[FINE]
        looks, misdeeds = self.held[LOOKS], self.held[MISDEEDS]
        state = (brings, fine, looks, misdeeds)
        if number in (FROM, LOOKFROM, DAREFROM):
            state = (brings[given[0]:], fine, *given[1:])
        if number in (IFBRINGS, WITHOUT):
            state = (self.with_day(*given), fine, looks, misdeeds)
        if number == IFLOOKS:
            state = (brings, fine, given[0], misdeeds)
        if number == IFFINE:
            state = (brings, given[0], looks, misdeeds)
        if number == FIRSTDAY:
            return [second_first_day(*state)]
        if number == TOLD:
            return [len(brings), looks, misdeeds, fine, *brings]
        if number == FOUR:
            (neither, dared), (looked, both) = cases(*state)
            return told_as(both, looked, dared, neither)
        if number in (LOOK, LOOKFROM, DARE, DAREFROM):
            return told_as(second_chances(*state)[number in (DARE, DAREFROM)])
        if number in (CAUGHT, BROUGHT):
            return told_as(second_course(*state)[number == BROUGHT])
        return told_as(second_worth(*state))


class ManyLines(unittest.TestCase):
    """Lines drawn anew, but the same each time, answered as by the second object."""

    SIZES = {BEGIN: 3, DROP: 0, BRINGS: 2, WORTH: 0, LOOK: 0, DARE: 0, FROM: 3, LOOKFROM: 3, DAREFROM: 3, FOUR: 0,
             CAUGHT: 0, BROUGHT: 0, IFBRINGS: 2, FIRSTDAY: 0, TOLD: 0}

    def line(self, chance):
        calls = []
        for place in range(chance.randint(1, 60)):
            number = BEGIN if chance.random() < (0.7 if place == 0 else 0.02) else chance.randrange(1, 22)
            if chance.random() < 0.1:
                number = DAY
            wide = 3 if chance.random() < 0.8 else chance.choice((6, 10, TOP))
            calls.append([number] + [chance.randint(0, wide) for place in range(self.SIZES.get(number, 1))])
        return calls

    def test_as_the_second_object(self):
        chance = Random(20)
        reached = {}
        for calls in [self.line(chance) for turn in range(600)]:
            second = SecondObject()
            wanted = [second.answer(*call) for call in calls]
            self.assertEqual(split(answers(flat(calls))), wanted, calls)
            for call, told in zip(calls, wanted):
                reached[(call[0], min(told[0], 0))] = True
        self.check_reached(reached)

    def check_reached(self, reached):
        """Each call was answered, and refused by each of its numbers."""
        refusals = {BEGIN: (-22,), DAY: (-22, -28), DROP: (-6,), BRINGS: (-2, -22), LOOKS: (-22,), MISDEEDS: (-22,),
                    FINE: (-22,), LOOK: (-6,), DARE: (-6,), FROM: (-2, -22), LOOKFROM: (-2, -22),
                    DAREFROM: (-2, -22), FOUR: (-6,), IFBRINGS: (-2, -22), IFLOOKS: (-22,), IFFINE: (-22,),
                    WITHOUT: (-2,), FIRSTDAY: (-33,)}
        wanted = {(number, told) for number in range(22)
                  for told in (0,) + refusals.get(number, ()) + ((-11,) if number != BEGIN else ())}
        self.assertEqual(set(reached), wanted)
