"""worth, look, dare, from, lookfrom, darefrom: worked out by hand, and against a second way for every game there is."""

import unittest
from fractions import Fraction
from itertools import product

from tests.helper import (
    ABOVE_5, ALL_DAYS, BEGIN, BRINGS, DARE, DAREFROM, DAY, DROP, FINE, FROM, LOOK, LOOKFROM, LOOKS, MISDEEDS,
    TOP, WORTH, Refusing, ask, cases, fraction, game, held, last, second_chances, second_course, second_worth,
)


class ByHand(unittest.TestCase):
    def tells(self, brings, looks, misdeeds, fine, worth, look, dare):
        found = ask(*game(brings, looks, misdeeds, fine), [WORTH], [LOOK], [DARE])[-3:]
        wanted = [[0, above, below] for above, below in (worth, look, dare)]
        self.assertEqual(found, wanted, (brings, looks, misdeeds, fine))

    def test_no_days(self):
        for looks in (0, 1, 5):
            for misdeeds in (0, 1, 5):
                laid = game((), looks, misdeeds, 2)
                self.assertEqual(ask(*laid, [WORTH], [LOOK], [DARE])[1:], [[0, 0, 1], [-6], [-6]])
                self.assertEqual(held(*laid, [LOOK], [DARE]), [looks, misdeeds, 2, []])

    def test_no_days_any_more(self):
        self.assertEqual(ask(*game((3,), 0, 1, 1), [DROP], [LOOK], [DARE])[2:], [[0], [-6], [-6]])

    def test_one_day(self):
        self.tells((1,), 1, 1, 1, (0, 1), (1, 2), (0, 1))
        self.tells((3,), 1, 1, 1, (0, 1), (3, 4), (0, 1))
        self.tells((2,), 1, 1, 2, (0, 1), (1, 2), (0, 1))
        self.tells((0,), 1, 1, 1, (0, 1), (0, 1), (0, 1))

    def test_no_looks(self):
        self.tells((2,), 0, 1, 1, (2, 1), (0, 1), (1, 1))
        self.tells((0,), 0, 1, 1, (0, 1), (0, 1), (0, 1))
        self.tells((1, 3, 2), 0, 1, 1, (3, 1), (0, 1), (0, 1))
        self.tells((1, 3, 2), 0, 2, 1, (5, 1), (0, 1), (0, 1))
        self.tells((1, 3, 2), 0, 3, 1, (6, 1), (0, 1), (1, 1))
        self.tells((3, 1, 2, 1), 0, 1, 3, (3, 1), (0, 1), (1, 1))

    def test_no_looks_and_daring_gets_as_much(self):
        self.tells((1, 1), 0, 1, 1, (1, 1), (0, 1), (0, 1))
        self.tells((2, 3, 2), 0, 2, 1, (5, 1), (0, 1), (0, 1))

    def test_no_misdeeds(self):
        self.tells((3, 3), 0, 0, 1, (0, 1), (0, 1), (0, 1))
        self.tells((3, 3), 2, 0, 1, (0, 1), (0, 1), (0, 1))

    def test_two_days(self):
        self.tells((1, 1), 1, 1, 1, (1, 3), (1, 3), (1, 3))
        self.tells((1, 3), 1, 1, 2, (1, 2), (1, 6), (1, 2))
        self.tells((3, 1), 1, 1, 2, (1, 2), (1, 2), (1, 6))
        self.tells((1, 3), 1, 2, 2, (1, 2), (1, 6), (1, 2))

    def test_all_days_alike(self):
        self.tells((1, 1, 1), 1, 1, 1, (1, 2), (1, 4), (1, 4))
        self.tells((1, 1, 1), 2, 1, 1, (1, 7), (3, 7), (1, 7))

    def test_more_looks_than_days(self):
        self.tells((3, 1), 5, 1, 1, (0, 1), (3, 4), (0, 1))
        self.tells((3, 1), 2, 5, 2, (0, 1), (3, 5), (0, 1))

    def test_more_misdeeds_than_days(self):
        self.tells((3, 1), 0, 5, 1, (4, 1), (0, 1), (1, 1))
        self.tells((1, 3), 1, 5, 2, (1, 2), (1, 6), (1, 2))

    def test_a_day_that_brings_nothing(self):
        self.tells((0, 2), 1, 1, 1, (0, 1), (0, 1), (0, 1))
        self.tells((0, 1, 3), 1, 1, 2, (1, 2), (0, 1), (0, 1))
        self.tells((2, 0), 1, 1, 3, (0, 1), (2, 5), (0, 1))
        self.tells((1, 3, 0), 1, 1, 2, (1, 2), (1, 6), (1, 2))

    def test_one_day_brings_all(self):
        self.tells((0, 3, 0), 1, 1, 1, (0, 1), (0, 1), (0, 1))
        self.tells((0, 3, 0), 0, 1, 1, (3, 1), (0, 1), (0, 1))
        self.tells((3, 0, 0), 1, 1, 1, (0, 1), (3, 4), (0, 1))

    def test_a_fine_of_3(self):
        self.tells((1, 1), 1, 1, 3, (1, 5), (1, 5), (1, 5))

    def test_daring_unlooked_gets_as_much_as_neither(self):
        # From day 1 on it's worth 2*3/(2+3+1), just what day 0 brings.
        self.tells((1, 2, 3), 1, 1, 1, (1, 1), (0, 1), (0, 1))

    def test_follows_each_change(self):
        laid = game((1, 1), 1, 1, 1)
        found = ask(*laid, [WORTH], [FINE, 3], [WORTH], [LOOKS, 0], [WORTH], [MISDEEDS, 2], [WORTH],
                    [BRINGS, 1, 3], [WORTH], [DROP], [WORTH], [DAY, 2], [WORTH], [BEGIN, 0, 1, 1], [WORTH])
        self.assertEqual(found[3::2], [[0, 1, 3], [0, 1, 5], [0, 1, 1], [0, 2, 1], [0, 4, 1], [0, 1, 1],
                                       [0, 3, 1], [0, 0, 1]])


class From(Refusing):
    LAID = game((2, 1, 3), 5, 0, 2)
    ASKED = ((1, 1, 1), (1, 0, 2), (1, 0, 1), (2, 0, 5), (2, 1, 5), (0, 5, 5), (0, 0, 2), (0, 1, 1), (0, 0, 0),
             (2, 5, 0))

    def tells(self, number, *wanted):
        found = ask(*self.LAID, *[[number, *asked] for asked in self.ASKED])[4:]
        self.assertEqual(found, [[0, above, below] for above, below in wanted])

    def test_from_by_hand(self):
        self.tells(FROM, (1, 2), (4, 1), (3, 1), (3, 1), (0, 1), (0, 1), (5, 1), (14, 13), (0, 1), (0, 1))

    def test_lookfrom_by_hand(self):
        self.tells(LOOKFROM, (1, 6), (0, 1), (0, 1), (0, 1), (3, 5), (1, 2), (0, 1), (3, 13), (0, 1), (0, 1))

    def test_darefrom_by_hand(self):
        self.tells(DAREFROM, (1, 2), (1, 1), (0, 1), (1, 1), (0, 1), (0, 1), (1, 1), (5, 13), (0, 1), (0, 1))

    def test_change_nothing(self):
        calls = [[number, 1, 1, 1] for number in (FROM, LOOKFROM, DAREFROM)]
        self.assertEqual(held(*self.LAID, *calls, [WORTH], [LOOK], [DARE]), [5, 0, 2, [2, 1, 3]])

    def test_no_such_day(self):
        for number in (FROM, LOOKFROM, DAREFROM):
            for day in (3, 4, 5, 256, 2147483648, TOP):
                self.refused(-2, [number, day, 0, 0])
            for day in (0, 1, TOP):
                self.refused(-2, [number, day, 1, 1], brings=())
            for day in (4, 5, TOP):
                self.refused(-2, [number, day, 1, 1], brings=(1, 1, 1, 1))
            self.assertEqual(last(*self.LAID, [DROP], [number, 2, 1, 1]), [-2])

    def test_out_of_range(self):
        for number, day in product((FROM, LOOKFROM, DAREFROM), range(3)):
            for count in ABOVE_5:
                self.refused(-22, [number, day, count, 0])
                self.refused(-22, [number, day, 5, count])
                self.refused(-22, [number, day, 0, count])
            self.refused(-22, [number, day, TOP, TOP])

    def test_no_such_day_ahead_of_out_of_range(self):
        for number, day in product((FROM, LOOKFROM, DAREFROM), (3, TOP)):
            for count in ABOVE_5:
                self.refused(-2, [number, day, count, 1])
                self.refused(-2, [number, day, 1, count])

    def test_most_that_may_be_asked(self):
        for number in (FROM, LOOKFROM, DAREFROM):
            self.assertEqual(last(*game((0,), 0, 0, 1), [number, 0, 5, 5]), [0, 0, 1])


class EveryGame(unittest.TestCase):
    def test_worth(self):
        for brings in ALL_DAYS:
            for fine in (1, 2, 3):
                for looks in range(6):
                    self.check_worth(brings, fine, looks)

    def check_worth(self, brings, fine, looks):
        calls = [call for misdeeds in range(6) for call in ([MISDEEDS, misdeeds], [WORTH])]
        found = ask(*game(brings, looks, 0, fine), *calls)[1 + len(brings):]
        told = [fraction(answer) for answer in found[1::2]]
        wanted = [second_worth(brings, fine, looks, misdeeds) for misdeeds in range(6)]
        self.assertEqual(told, wanted, (brings, fine, looks))

    def check_from(self, number, second):
        """What that call tells of each day with each count of looks, of misdeeds."""
        pairs = list(product(range(6), repeat=2))
        for brings, fine in product(ALL_DAYS, (1, 2, 3)):
            for day in range(len(brings)):
                calls = [[number, day, looks, misdeeds] for looks, misdeeds in pairs]
                found = ask(*game(brings, 3, 2, fine), *calls)[1 + len(brings):]
                wanted = [second(brings[day:], fine, looks, misdeeds) for looks, misdeeds in pairs]
                self.assertEqual([fraction(answer) for answer in found], wanted, (brings, fine, day))

    def test_from(self):
        self.check_from(FROM, second_worth)

    def test_lookfrom(self):
        self.check_from(LOOKFROM, lambda *state: second_chances(*state)[0])

    def test_darefrom(self):
        self.check_from(DAREFROM, lambda *state: second_chances(*state)[1])

    def test_chances(self):
        for brings in ALL_DAYS[1:]:
            for fine in (1, 2, 3):
                for looks, misdeeds in product(range(6), repeat=2):
                    self.check_chances(brings, fine, looks, misdeeds)

    def check_chances(self, brings, fine, looks, misdeeds):
        found = ask(*game(brings, looks, misdeeds, fine), [LOOK], [DARE])[-2:]
        look, dare = [fraction(answer) for answer in found]
        where = (brings, fine, looks, misdeeds)
        rows = cases(brings, fine, looks, misdeeds)
        if misdeeds == 0 or rows[0][1] <= rows[0][0]:
            self.assertEqual((look, dare), (0, 0), where)
        elif looks == 0:
            self.assertEqual((look, dare), (0, 1), where)
        else:
            self.check_alike(rows, look, dare, second_worth(brings, fine, looks, misdeeds), where)

    def check_alike(self, rows, look, dare, worth, where):
        self.assertTrue(0 < look < 1 and 0 <= dare < 1, where)
        to_other = [(1 - look) * rows[0][choice] + look * rows[1][choice] for choice in (0, 1)]
        to_inspector = [(1 - dare) * row[0] + dare * row[1] for row in rows]
        self.assertEqual(to_other + to_inspector, [worth] * 4, where)


class SecondWay(unittest.TestCase):
    def test_agrees_with_what_is_worked_out_by_hand(self):
        self.assertEqual(second_worth((1, 1, 1), 1, 2, 1), Fraction(1, 7))
        self.assertEqual(second_worth((1, 2, 3), 1, 1, 1), 1)
        self.assertEqual(second_chances((1, 3), 2, 1, 1), (Fraction(1, 6), Fraction(1, 2)))
        self.assertEqual(second_course((1, 3), 2, 1, 1), (Fraction(1, 12), Fraction(2, 3)))
