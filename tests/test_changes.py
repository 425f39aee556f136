"""begin, day, drop, brings, looks, misdeeds, fine: what they answer, and what they leave."""

import unittest

from tests.helper import (
    ABOVE_3, ABOVE_5, BEGIN, BRINGS, BROUGHT, CAUGHT, DARE, DAREFROM, DAY, DROP, FINE, FIRSTDAY, FOUR, FROM,
    IFBRINGS, IFFINE, IFLOOKS, LOOK, LOOKFROM, LOOKS, MISDEEDS, NOT_A_FINE, TOLD, TOP, WITHOUT, WORTH, Refusing,
    ask, game, held, last,
)

LAID = game((1, 0, 3), 2, 4, 3)


class BeforeBegin(unittest.TestCase):
    OTHERS = (
        [DAY, 1], [DAY, TOP], [DROP], [BRINGS, 0, 1], [BRINGS, TOP, TOP], [LOOKS, 1], [LOOKS, 6],
        [MISDEEDS, 1], [MISDEEDS, TOP], [FINE, 1], [FINE, 0], [WORTH], [LOOK], [DARE],
        [FROM, 0, 1, 1], [FROM, TOP, TOP, TOP], [LOOKFROM, 0, 1, 1], [LOOKFROM, TOP, TOP, TOP],
        [DAREFROM, 0, 1, 1], [DAREFROM, TOP, TOP, TOP], [FOUR], [CAUGHT], [BROUGHT], [IFBRINGS, 0, 1],
        [IFBRINGS, TOP, TOP], [IFLOOKS, 1], [IFLOOKS, 6], [IFLOOKS, TOP], [IFFINE, 1], [IFFINE, 0],
        [IFFINE, TOP], [WITHOUT, 0], [WITHOUT, TOP], [FIRSTDAY], [TOLD],
    )

    def test_all_else_is_refused(self):
        for call in self.OTHERS:
            self.assertEqual(ask(call), [[-11]], call)

    def test_refused_ahead_of_all_other_refusals_in_one_line(self):
        self.assertEqual(ask(*self.OTHERS), [[-11]] * len(self.OTHERS))

    def test_a_refused_begin_is_no_begin(self):
        for call in self.OTHERS:
            self.assertEqual(ask([BEGIN, 6, 0, 1], call), [[-22], [-11]], call)

    def test_what_was_refused_ahead_of_begin_left_nothing(self):
        self.assertEqual(held([DAY, 1], [LOOKS, 5], [FINE, 2], [BEGIN, 1, 2, 3]), [1, 2, 3, []])


class Begin(Refusing):
    def test_all_that_may_be(self):
        for looks in range(6):
            for misdeeds in range(6):
                for fine in (1, 2, 3):
                    call = [BEGIN, looks, misdeeds, fine]
                    self.assertEqual(ask(call), [[0]])
                    self.assertEqual(held(call), [looks, misdeeds, fine, []])

    def test_out_of_range(self):
        for number in ABOVE_5:
            self.assertEqual(ask([BEGIN, number, 0, 1]), [[-22]])
            self.assertEqual(ask([BEGIN, 0, number, 1]), [[-22]])
        for number in NOT_A_FINE:
            self.assertEqual(ask([BEGIN, 0, 0, number]), [[-22]])
        self.assertEqual(ask([BEGIN, TOP, TOP, TOP]), [[-22]])

    def test_again(self):
        self.assertEqual(last(*LAID, [BEGIN, 5, 0, 1]), [0])
        self.assertEqual(held(*LAID, [BEGIN, 5, 0, 1]), [5, 0, 1, []])
        self.assertEqual(last(*LAID, [BEGIN, 5, 0, 1], [DAY, 2]), [0])

    def test_refused_behind_one_that_was_not(self):
        for number in ABOVE_5:
            self.refused(-22, [BEGIN, number, 1, 1])
            self.refused(-22, [BEGIN, 1, number, 1])
        for number in NOT_A_FINE:
            self.refused(-22, [BEGIN, 1, 1, number])

    def test_answered_behind_one_that_was_refused(self):
        self.assertEqual(ask([BEGIN, 0, 0, 0], [BEGIN, 0, 0, 1], [WORTH]), [[-22], [0], [0, 0, 1]])


class Day(Refusing):
    def test_numbers_and_order(self):
        calls = game((3, 0, 2, 1), 0, 0, 1)
        self.assertEqual(ask(*calls), [[0], [0], [1], [2], [3]])
        self.assertEqual(held(*calls), [0, 0, 1, [3, 0, 2, 1]])

    def test_out_of_range(self):
        for number in ABOVE_3:
            self.refused(-22, [DAY, number])
            self.refused(-22, [DAY, number], brings=())

    def test_full(self):
        for number in (0, 1, 3):
            self.refused(-28, [DAY, number], brings=(1, 2, 3, 0))

    def test_out_of_range_ahead_of_full(self):
        for number in ABOVE_3:
            self.refused(-22, [DAY, number], brings=(1, 2, 3, 0))

    def test_room_again_behind_a_drop(self):
        full = game((1, 2, 3, 0), 1, 1, 1)
        self.assertEqual(ask(*full, [DAY, 1], [DROP], [DAY, 3], [DAY, 3])[5:], [[-28], [3], [3], [-28]])


class Drop(Refusing):
    def test_the_last_goes(self):
        self.assertEqual(last(*LAID, [DROP]), [2])
        self.assertEqual(held(*LAID, [DROP]), [2, 4, 3, [1, 0]])

    def test_down_to_none(self):
        self.assertEqual(ask(*LAID, [DROP], [DROP], [DROP], [DROP], [DROP])[4:], [[2], [1], [0], [-6], [-6]])

    def test_none(self):
        self.refused(-6, [DROP], brings=())


class Brings(Refusing):
    def test_tells_what_it_was(self):
        for day, before in ((0, 1), (1, 0), (2, 3)):
            for brought in range(4):
                after = [1, 0, 3]
                after[day] = brought
                call = [BRINGS, day, brought]
                self.assertEqual(ask(*LAID, call, call)[4:], [[before], [brought]])
                self.assertEqual(held(*LAID, call), [2, 4, 3, after])

    def test_no_such_day(self):
        for day in (3, 4, 5, 255, 256, 2147483648, TOP):
            self.refused(-2, [BRINGS, day, 1])
        for day in (0, 1, TOP):
            self.refused(-2, [BRINGS, day, 1], brings=())

    def test_a_dropped_day_is_no_day(self):
        self.assertEqual(last(*LAID, [DROP], [BRINGS, 2, 1]), [-2])

    def test_out_of_range(self):
        for number in ABOVE_3:
            for day in range(3):
                self.refused(-22, [BRINGS, day, number])

    def test_no_such_day_ahead_of_out_of_range(self):
        for day in (3, TOP):
            for number in ABOVE_3:
                self.refused(-2, [BRINGS, day, number])


class LooksMisdeedsFine(Refusing):
    def test_tell_what_it_was(self):
        for number in range(6):
            self.assertEqual(ask(*LAID, [LOOKS, number], [LOOKS, 0])[4:], [[2], [number]])
            self.assertEqual(held(*LAID, [LOOKS, number]), [number, 4, 3, [1, 0, 3]])
            self.assertEqual(ask(*LAID, [MISDEEDS, number], [MISDEEDS, 0])[4:], [[4], [number]])
            self.assertEqual(held(*LAID, [MISDEEDS, number]), [2, number, 3, [1, 0, 3]])
        for number in (1, 2, 3):
            self.assertEqual(ask(*LAID, [FINE, number], [FINE, 1])[4:], [[3], [number]])
            self.assertEqual(held(*LAID, [FINE, number]), [2, 4, number, [1, 0, 3]])

    def test_out_of_range(self):
        for number in ABOVE_5:
            self.refused(-22, [LOOKS, number])
            self.refused(-22, [MISDEEDS, number])
        for number in NOT_A_FINE:
            self.refused(-22, [FINE, number])
