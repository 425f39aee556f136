"""worth, look, dare, from: worked out by hand, and against a second way for every game there is."""

import unittest
from fractions import Fraction
from itertools import product

from tests.helper import (
    ABOVE_5, BEGIN, BRINGS, DARE, DAY, DROP, FINE, FROM, LOOK, LOOKS, MISDEEDS, TOP, WORTH,
    ask, cases, fraction, game, held, last, second_worth,
)

ALL_DAYS = [brings for size in range(5) for brings in product(range(4), repeat=size)]


class ByHand(unittest.TestCase):
    def tells(self, brings, looks, misdeeds, fine, worth, look, dare):
        found = ask(*game(brings, looks, misdeeds, fine), [WORTH], [LOOK], [DARE])[-3:]
        wanted = [[0, above, below] for above, below in (worth, look, dare)]
        self.assertEqual(found, wanted, (brings, looks, misdeeds, fine))

    def test_no_days(self):
        for looks in (0, 1, 5):
            for misdeeds in (0, 1, 5):
                laid = game((), looks, misdeeds, 2)
                self.assertEqual(ask(*laid, [WORTH], [LOOK], [DARE])[1:], [[0, 0, 1], [-6], [-6]])
                self.assertEqual(held(*laid, [LOOK], [DARE]), [looks, misdeeds, 2, []])

    def test_no_days_any_more(self):
        self.assertEqual(ask(*game((3,), 0, 1, 1), [DROP], [LOOK], [DARE])[2:], [[0], [-6], [-6]])

    def test_one_day(self):
        self.tells((1,), 1, 1, 1, (0, 1), (1, 2), (0, 1))
        self.tells((3,), 1, 1, 1, (0, 1), (3, 4), (0, 1))
        self.tells((2,), 1, 1, 2, (0, 1), (1, 2), (0, 1))
        self.tells((0,), 1, 1, 1, (0, 1), (0, 1), (0, 1))

    def test_no_looks(self):
        self.tells((2,), 0, 1, 1, (2, 1), (0, 1), (1, 1))
        self.tells((0,), 0, 1, 1, (0, 1), (0, 1), (0, 1))
        self.tells((1, 3, 2), 0, 1, 1, (3, 1), (0, 1), (0, 1))
        self.tells((1, 3, 2), 0, 2, 1, (5, 1), (0, 1), (0, 1))
        self.tells((1, 3, 2), 0, 3, 1, (6, 1), (0, 1), (1, 1))
        self.tells((3, 1, 2, 1), 0, 1, 3, (3, 1), (0, 1), (1, 1))

    def test_no_looks_and_daring_gets_as_much(self):
        self.tells((1, 1), 0, 1, 1, (1, 1), (0, 1), (0, 1))
        self.tells((2, 3, 2), 0, 2, 1, (5, 1), (0, 1), (0, 1))

    def test_no_misdeeds(self):
        self.tells((3, 3), 0, 0, 1, (0, 1), (0, 1), (0, 1))
        self.tells((3, 3), 2, 0, 1, (0, 1), (0, 1), (0, 1))

    def test_two_days(self):
        self.tells((1, 1), 1, 1, 1, (1, 3), (1, 3), (1, 3))
        self.tells((1, 3), 1, 1, 2, (1, 2), (1, 6), (1, 2))
        self.tells((3, 1), 1, 1, 2, (1, 2), (1, 2), (1, 6))
        self.tells((1, 3), 1, 2, 2, (1, 2), (1, 6), (1, 2))

    def test_all_days_alike(self):
        self.tells((1, 1, 1), 1, 1, 1, (1, 2), (1, 4), (1, 4))
        self.tells((1, 1, 1), 2, 1, 1, (1, 7), (3, 7), (1, 7))

    def test_more_looks_than_days(self):
        self.tells((3, 1), 5, 1, 1, (0, 1), (3, 4), (0, 1))
        self.tells((3, 1), 2, 5, 2, (0, 1), (3, 5), (0, 1))

    def test_more_misdeeds_than_days(self):
        self.tells((3, 1), 0, 5, 1, (4, 1), (0, 1), (1, 1))
        self.tells((1, 3), 1, 5, 2, (1, 2), (1, 6), (1, 2))

    def test_a_day_that_brings_nothing(self):
        self.tells((0, 2), 1, 1, 1, (0, 1), (0, 1), (0, 1))
        self.tells((0, 1, 3), 1, 1, 2, (1, 2), (0, 1), (0, 1))
        self.tells((2, 0), 1, 1, 3, (0, 1), (2, 5), (0, 1))
        self.tells((1, 3, 0), 1, 1, 2, (1, 2), (1, 6), (1, 2))

    def test_one_day_brings_all(self):
        self.tells((0, 3, 0), 1, 1, 1, (0, 1), (0, 1), (0, 1))
        self.tells((0, 3, 0), 0, 1, 1, (3, 1), (0, 1), (0, 1))
        self.tells((3, 0, 0), 1, 1, 1, (0, 1), (3, 4), (0, 1))

    def test_a_fine_of_3(self):
        self.tells((1, 1), 1, 1, 3, (1, 5), (1, 5), (1, 5))

    def test_daring_unlooked_gets_as_much_as_neither(self):
        # From day 1 on it's worth 2*3/(2+3+1), just what day 0 brings.
        self.tells((1, 2, 3), 1, 1, 1, (1, 1), (0, 1), (0, 1))

    def test_follows_each_change(self):
        laid = game((1, 1), 1, 1, 1)
        found = ask(*laid, [WORTH], [FINE, 3], [WORTH], [LOOKS, 0], [WORTH], [MISDEEDS, 2], [WORTH],
                    [BRINGS, 1, 3], [WORTH], [DROP], [WORTH], [DAY, 2], [WORTH], [BEGIN, 0, 1, 1], [WORTH])
        self.assertEqual(found[3::2], [[0, 1, 3], [0, 1, 5], [0, 1, 1], [0, 2, 1], [0, 4, 1], [0, 1, 1],
                                       [0, 3, 1], [0, 0, 1]])


class From(unittest.TestCase):
    LAID = game((2, 1, 3), 5, 0, 2)

    def test_by_hand(self):
        found = ask(*self.LAID, [FROM, 1, 1, 1], [FROM, 1, 0, 2], [FROM, 2, 0, 5], [FROM, 2, 1, 5],
                    [FROM, 0, 5, 5], [FROM, 0, 0, 2], [FROM, 0, 0, 0])[4:]
        self.assertEqual(found, [[0, 1, 2], [0, 4, 1], [0, 3, 1], [0, 0, 1], [0, 0, 1], [0, 5, 1], [0, 0, 1]])

    def test_changes_nothing(self):
        self.assertEqual(held(*self.LAID, [FROM, 1, 1, 1], [WORTH], [LOOK], [DARE]), [5, 0, 2, [2, 1, 3]])

    def refused(self, number, call):
        self.assertEqual(last(*self.LAID, call), [number], call)
        self.assertEqual(held(*self.LAID, call), [5, 0, 2, [2, 1, 3]], call)

    def test_no_such_day(self):
        for day in (3, 4, 5, 256, 2147483648, TOP):
            self.refused(-2, [FROM, day, 0, 0])
        for day in (0, 1, TOP):
            self.assertEqual(ask([BEGIN, 1, 1, 1], [FROM, day, 1, 1]), [[0], [-2]])

    def test_out_of_range(self):
        for day in range(3):
            for number in ABOVE_5:
                self.refused(-22, [FROM, day, number, 0])
                self.refused(-22, [FROM, day, 5, number])
            self.refused(-22, [FROM, day, TOP, TOP])

    def test_no_such_day_ahead_of_out_of_range(self):
        for day in (3, TOP):
            for number in ABOVE_5:
                self.refused(-2, [FROM, day, number, 1])
                self.refused(-2, [FROM, day, 1, number])


class EveryGame(unittest.TestCase):
    def test_worth(self):
        for brings in ALL_DAYS:
            for fine in (1, 2, 3):
                for looks in range(6):
                    self.check_worth(brings, fine, looks)

    def check_worth(self, brings, fine, looks):
        calls = [call for misdeeds in range(6) for call in ([MISDEEDS, misdeeds], [WORTH])]
        found = ask(*game(brings, looks, 0, fine), *calls)[1 + len(brings):]
        told = [fraction(answer) for answer in found[1::2]]
        wanted = [second_worth(brings, fine, looks, misdeeds) for misdeeds in range(6)]
        self.assertEqual(told, wanted, (brings, fine, looks))

    def test_from(self):
        for brings in ALL_DAYS:
            for fine in (1, 2, 3):
                for day in range(len(brings)):
                    self.check_from(brings, fine, day)

    def check_from(self, brings, fine, day):
        pairs = list(product(range(6), repeat=2))
        calls = [[FROM, day, looks, misdeeds] for looks, misdeeds in pairs]
        found = ask(*game(brings, 3, 2, fine), *calls)[1 + len(brings):]
        wanted = [second_worth(brings[day:], fine, looks, misdeeds) for looks, misdeeds in pairs]
        self.assertEqual([fraction(answer) for answer in found], wanted, (brings, fine, day))

    def test_chances(self):
        for brings in ALL_DAYS[1:]:
            for fine in (1, 2, 3):
                for looks, misdeeds in product(range(6), repeat=2):
                    self.check_chances(brings, fine, looks, misdeeds)

    def check_chances(self, brings, fine, looks, misdeeds):
        found = ask(*game(brings, looks, misdeeds, fine), [LOOK], [DARE])[-2:]
        look, dare = [fraction(answer) for answer in found]
        where = (brings, fine, looks, misdeeds)
        rows = cases(brings, fine, looks, misdeeds)
        if misdeeds == 0 or rows[0][1] <= rows[0][0]:
            self.assertEqual((look, dare), (0, 0), where)
        elif looks == 0:
            self.assertEqual((look, dare), (0, 1), where)
        else:
            self.check_alike(rows, look, dare, second_worth(brings, fine, looks, misdeeds), where)

    def check_alike(self, rows, look, dare, worth, where):
        self.assertTrue(0 < look < 1 and 0 <= dare < 1, where)
        to_other = [(1 - look) * rows[0][choice] + look * rows[1][choice] for choice in (0, 1)]
        to_inspector = [(1 - dare) * row[0] + dare * row[1] for row in rows]
        self.assertEqual(to_other + to_inspector, [worth] * 4, where)


class WhatHolds(unittest.TestCase):
    def test_a_day_that_brings_nothing_might_as_well_not_be(self):
        for brings in product(range(4), repeat=3):
            for place in range(4):
                longer = brings[:place] + (0,) + brings[place:]
                for looks, misdeeds in ((0, 2), (1, 1), (1, 2), (2, 1), (2, 3)):
                    self.assertEqual(last(*game(brings, looks, misdeeds, 2), [WORTH]),
                                     last(*game(longer, looks, misdeeds, 2), [WORTH]), longer)


class SecondWay(unittest.TestCase):
    def test_agrees_with_what_is_worked_out_by_hand(self):
        self.assertEqual(second_worth((1, 1, 1), 1, 2, 1), Fraction(1, 7))
        self.assertEqual(second_worth((1, 2, 3), 1, 1, 1), 1)
