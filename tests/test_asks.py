"""four, caught, brought, firstday, and what it would be worth if: by hand, and against a second way."""

import unittest
from itertools import product

from tests.helper import (
    ABOVE_3, ABOVE_5, ALL_DAYS, BROUGHT, CAUGHT, DAREFROM, DROP, FINE, FIRSTDAY, FOUR, FROM, IFBRINGS, IFFINE,
    IFLOOKS, LOOKFROM, LOOKS, MISDEEDS, NOT_A_FINE, TOLD, TOP, WITHOUT, WORTH, Refusing, ask, cases, fraction,
    fractions, game, held, last, second_course, second_first_day, second_worth,
)

# Every game with few days, and of those with four days some of each kind.
SOME_DAYS = [brings for brings in ALL_DAYS if len(brings) < 4] + ALL_DAYS[-256::11]
COUNTS = tuple(product(range(6), repeat=2))


def told_of(*pairs):
    return [0] + [number for pair in pairs for number in pair]


class Corners(unittest.TestCase):
    def tells(self, brings, looks, misdeeds, fine, four, caught, brought, first):
        found = ask(*game(brings, looks, misdeeds, fine), [FOUR], [CAUGHT], [BROUGHT], [FIRSTDAY])[-4:]
        wanted = [[-6] if four is None else told_of(*four), told_of(caught), told_of(brought), [first]]
        self.assertEqual(found, wanted, (brings, looks, misdeeds, fine))

    def test_no_days(self):
        for looks, misdeeds in COUNTS:
            self.tells((), looks, misdeeds, 2, None, (0, 1), (0, 1), -33)

    def test_one_day(self):
        self.tells((3,), 1, 1, 1, ((-1, 1), (0, 1), (3, 1), (0, 1)), (0, 1), (0, 1), -33)
        self.tells((0,), 1, 1, 2, ((-2, 1), (0, 1), (0, 1), (0, 1)), (0, 1), (0, 1), -33)
        self.tells((2,), 0, 1, 1, None, (0, 1), (2, 1), 0)

    def test_two_days(self):
        self.tells((1, 3), 1, 1, 2, ((-2, 1), (3, 1), (1, 1), (0, 1)), (1, 12), (2, 3), 0)
        # Not both days' chances of daring are above 0 with all looks: on the last one nothing's to be had.
        self.tells((0, 3), 1, 1, 2, ((-2, 1), (3, 1), (0, 1), (0, 1)), (0, 1), (0, 1), -33)

    def test_three_days(self):
        self.tells((2, 1, 3), 1, 1, 2, ((-2, 1), (3, 1), (2, 1), (1, 2)), (5, 39), (4, 3), 0)

    def test_no_looks(self):
        self.tells((1, 3, 2), 0, 2, 1, None, (0, 1), (5, 1), 1)
        self.tells((1, 3, 2), 0, 1, 3, None, (0, 1), (3, 1), 1)
        self.tells((1, 3, 2), 0, 3, 1, None, (0, 1), (6, 1), 0)
        self.tells((0, 0), 0, 3, 1, None, (0, 1), (0, 1), -33)

    def test_no_misdeeds(self):
        self.tells((3, 3), 2, 0, 1, None, (0, 1), (0, 1), -33)
        self.tells((3, 3), 0, 0, 1, None, (0, 1), (0, 1), -33)

    def test_more_of_them_than_days(self):
        self.tells((3, 1), 5, 5, 1, ((-1, 1), (0, 1), (3, 1), (0, 1)), (0, 1), (0, 1), -33)
        self.tells((3, 1), 0, 5, 1, None, (0, 1), (4, 1), 0)
        self.tells((1, 3), 1, 5, 2, ((-2, 1), (3, 1), (1, 1), (0, 1)), (1, 12), (2, 3), 0)

    def test_all_days_alike(self):
        self.tells((1, 1), 1, 1, 1, ((-1, 1), (1, 1), (1, 1), (0, 1)), (1, 9), (4, 9), 0)
        self.tells((1, 1, 1), 1, 1, 1, ((-1, 1), (1, 1), (1, 1), (1, 3)), (1, 8), (5, 8), 0)
        self.tells((1, 1, 1), 1, 2, 1, ((-1, 1), (2, 1), (4, 3), (1, 3)), (3, 16), (15, 16), 0)
        self.tells((1, 1), 0, 1, 1, None, (0, 1), (1, 1), 1)

    def test_a_day_that_brings_nothing(self):
        self.tells((0, 1, 3), 1, 1, 2, ((-2, 1), (3, 1), (0, 1), (1, 2)), (1, 12), (2, 3), 1)
        self.tells((1, 3, 0), 1, 1, 2, ((-2, 1), (3, 1), (1, 1), (0, 1)), (1, 12), (2, 3), 0)

    def test_one_that_brings_all(self):
        self.tells((0, 3, 0), 1, 1, 1, ((-1, 1), (3, 1), (0, 1), (0, 1)), (0, 1), (0, 1), -33)
        self.tells((0, 3, 0), 0, 1, 1, None, (0, 1), (3, 1), 1)
        self.tells((0, 0, 0, 3), 0, 5, 1, None, (0, 1), (3, 1), 3)

    def test_a_fine_of_3(self):
        self.tells((1, 1), 1, 1, 3, ((-3, 1), (1, 1), (1, 1), (0, 1)), (1, 25), (8, 25), 0)

    def test_daring_unlooked_gets_as_much_as_neither(self):
        self.tells((1, 2, 3), 1, 1, 1, ((-1, 1), (3, 1), (1, 1), (1, 1)), (1, 6), (7, 6), 1)


class NothingThere(Refusing):
    def test_four_without_days_looks_or_misdeeds(self):
        self.refused(-6, [FOUR], brings=())
        self.refused(-6, [FOUR], looks=0)
        self.refused(-6, [FOUR], misdeeds=0)
        self.refused(-6, [FOUR], brings=(), looks=0, misdeeds=0)
        self.refused(-6, [FOUR], brings=(3, 3, 3, 3), looks=0, misdeeds=5)

    def test_four_with_just_one_of_each(self):
        laid = game((2,), 1, 1, 3)
        self.assertEqual(ask(*laid, [FOUR], [LOOKS, 0], [FOUR], [LOOKS, 1], [MISDEEDS, 0], [FOUR], [MISDEEDS, 1],
                             [DROP], [FOUR])[2:],
                         [[0, -3, 1, 0, 1, 2, 1, 0, 1], [1], [-6], [0], [1], [-6], [0], [0], [-6]])

    def test_firstday_without_such_a_day(self):
        self.refused(-33, [FIRSTDAY], brings=())
        self.refused(-33, [FIRSTDAY], misdeeds=0)
        self.refused(-33, [FIRSTDAY], brings=(0, 0, 0, 0), looks=0)
        self.refused(-33, [FIRSTDAY], brings=(3, 3), looks=2)

    def test_firstday_just_at_the_edge(self):
        self.assertEqual(last(*game((3, 3), 2, 4, 3), [LOOKS, 1], [FIRSTDAY]), [0])
        self.assertEqual(last(*game((0, 0, 0, 1), 0, 1, 3), [FIRSTDAY]), [3])


class Ifs(Refusing):
    LAID = game((1, 3), 1, 1, 2)

    def tells(self, laid, calls, *wanted):
        found = ask(*laid, *calls)[len(laid):]
        self.assertEqual(found, [told_of(pair) for pair in wanted])

    def test_ifbrings(self):
        calls = [[IFBRINGS, 0, brought] for brought in range(4)] + [[IFBRINGS, 1, brought] for brought in range(4)]
        self.tells(self.LAID, calls, (0, 1), (1, 2), (6, 7), (9, 8), (0, 1), (1, 4), (2, 5), (1, 2))
        self.tells(game((2,), 0, 1, 1), [[IFBRINGS, 0, 3], [IFBRINGS, 0, 0]], (3, 1), (0, 1))
        self.tells(game((0, 1, 3), 1, 1, 2), [[IFBRINGS, 0, 2]], (14, 13))

    def test_iflooks(self):
        calls = [[IFLOOKS, looks] for looks in range(6)]
        for looks in range(6):
            laid = game((1, 1, 1), looks, 1, 1)
            self.tells(laid, calls, (1, 1), (1, 2), (1, 7), (0, 1), (0, 1), (0, 1))

    def test_iffine(self):
        calls = [[IFFINE, fine] for fine in (1, 2, 3)]
        for fine in (1, 2, 3):
            self.tells(game((1, 3), 1, 1, fine), calls, (3, 5), (1, 2), (3, 7))
            self.tells(game((1, 3), 0, 1, fine), calls, (3, 1), (3, 1), (3, 1))

    def test_without(self):
        self.tells(self.LAID, [[WITHOUT, 0], [WITHOUT, 1]], (0, 1), (0, 1))
        self.tells(game((1, 3), 0, 1, 2), [[WITHOUT, 0], [WITHOUT, 1]], (3, 1), (1, 1))
        self.tells(game((2, 1, 3), 1, 1, 2), [[WITHOUT, 0], [WITHOUT, 1], [WITHOUT, 2]], (1, 2), (6, 7), (2, 5))
        self.tells(game((3,), 0, 5, 1), [[WITHOUT, 0]], (0, 1))

    def test_corners(self):
        nothing = [[IFLOOKS, 0], [IFLOOKS, 5], [IFFINE, 1], [IFFINE, 3]]
        self.tells(game((), 1, 1, 2), nothing, *[(0, 1)] * 4)
        self.tells(game((3, 3), 2, 0, 1), nothing + [[IFBRINGS, 0, 3], [WITHOUT, 1]], *[(0, 1)] * 6)
        self.tells(game((3, 1), 5, 5, 1), nothing + [[IFBRINGS, 1, 3], [WITHOUT, 0]],
                   (4, 1), *[(0, 1)] * 5)
        self.tells(game((0, 3, 0), 0, 1, 3), [[WITHOUT, 0], [WITHOUT, 1], [WITHOUT, 2], [IFLOOKS, 1]],
                   (3, 1), (0, 1), (3, 1), (0, 1))
        self.tells(game((1, 2, 3), 1, 1, 1), [[WITHOUT, 0], [IFBRINGS, 0, 0], [IFBRINGS, 0, 1]], *[(1, 1)] * 3)

    def test_no_such_day(self):
        for day in (3, 4, 5, 255, 256, 2147483648, TOP):
            self.refused(-2, [IFBRINGS, day, 0])
            self.refused(-2, [WITHOUT, day])
        for day in (0, 1, TOP):
            self.refused(-2, [IFBRINGS, day, 0], brings=())
            self.refused(-2, [WITHOUT, day], brings=())
        for day in (4, 5, TOP):
            self.refused(-2, [IFBRINGS, day, 3], brings=(1, 2, 3, 0))
            self.refused(-2, [WITHOUT, day], brings=(1, 2, 3, 0))

    def test_a_dropped_day_is_no_day(self):
        self.assertEqual(ask(*self.LAID, [DROP], [IFBRINGS, 1, 1], [WITHOUT, 1], [WITHOUT, 0])[4:],
                         [[-2], [-2], [0, 0, 1]])

    def test_out_of_range(self):
        for number in ABOVE_3:
            for day in range(3):
                self.refused(-22, [IFBRINGS, day, number])
        for number in ABOVE_5:
            self.refused(-22, [IFLOOKS, number])
            self.refused(-22, [IFLOOKS, number], brings=())
        for number in NOT_A_FINE:
            self.refused(-22, [IFFINE, number])
            self.refused(-22, [IFFINE, number], brings=())

    def test_no_such_day_ahead_of_out_of_range(self):
        for day, number in product((3, 4, TOP), ABOVE_3):
            self.refused(-2, [IFBRINGS, day, number])
            self.refused(-2, [IFBRINGS, day, number], brings=(), misdeeds=0)


class EveryGame(unittest.TestCase):
    def test_caught_and_brought(self):
        for brings, fine, (looks, misdeeds) in product(ALL_DAYS, (1, 2, 3), COUNTS):
            found = ask(*game(brings, looks, misdeeds, fine), [CAUGHT], [BROUGHT])[-2:]
            wanted = second_course(brings, fine, looks, misdeeds)
            self.assertEqual((fraction(found[0]), fraction(found[1])), wanted, (brings, fine, looks, misdeeds))

    def test_firstday(self):
        for brings, fine, (looks, misdeeds) in product(ALL_DAYS, (1, 2, 3), COUNTS):
            found = last(*game(brings, looks, misdeeds, fine), [FIRSTDAY])
            self.assertEqual(found, [second_first_day(brings, fine, looks, misdeeds)], (brings, fine, looks, misdeeds))

    def test_four(self):
        for brings, fine, (looks, misdeeds) in product(ALL_DAYS[1:], (1, 2, 3), COUNTS):
            found = last(*game(brings, looks, misdeeds, fine), [FOUR])
            if looks == 0 or misdeeds == 0:
                self.assertEqual(found, [-6])
            else:
                (neither, dared), (looked, both) = cases(brings, fine, looks, misdeeds)
                self.assertEqual(fractions(found), [both, looked, dared, neither], (brings, fine, looks, misdeeds))


class SomeGames(unittest.TestCase):
    def asked(self, calls, brings, fine, looks, misdeeds):
        laid = game(brings, looks, misdeeds, fine)
        return [fraction(answer) for answer in ask(*laid, *calls)[len(laid):]]

    def test_ifbrings(self):
        for brings, fine, (looks, misdeeds) in product(SOME_DAYS, (1, 2, 3), COUNTS):
            changes = list(product(range(len(brings)), range(4)))
            found = self.asked([[IFBRINGS, *change] for change in changes], brings, fine, looks, misdeeds)
            others = [brings[:day] + (brought,) + brings[day + 1:] for day, brought in changes]
            self.assertEqual(found, [second_worth(other, fine, looks, misdeeds) for other in others], brings)

    def test_iflooks(self):
        for brings, fine, (looks, misdeeds) in product(SOME_DAYS, (1, 2, 3), COUNTS):
            found = self.asked([[IFLOOKS, other] for other in range(6)], brings, fine, looks, misdeeds)
            self.assertEqual(found, [second_worth(brings, fine, other, misdeeds) for other in range(6)], brings)

    def test_iffine(self):
        for brings, fine, (looks, misdeeds) in product(SOME_DAYS, (1, 2, 3), COUNTS):
            found = self.asked([[IFFINE, other] for other in (1, 2, 3)], brings, fine, looks, misdeeds)
            self.assertEqual(found, [second_worth(brings, other, looks, misdeeds) for other in (1, 2, 3)], brings)

    def test_without(self):
        for brings, fine, (looks, misdeeds) in product(SOME_DAYS, (1, 2, 3), COUNTS):
            found = self.asked([[WITHOUT, day] for day in range(len(brings))], brings, fine, looks, misdeeds)
            others = [brings[:day] + brings[day + 1:] for day in range(len(brings))]
            self.assertEqual(found, [second_worth(other, fine, looks, misdeeds) for other in others], brings)


class Asking(unittest.TestCase):
    ASKS = (
        [LOOKFROM, 0, 1, 1], [LOOKFROM, 1, 5, 5], [LOOKFROM, 4, 1, 1], [LOOKFROM, 0, 6, 0], [DAREFROM, 0, 1, 1],
        [DAREFROM, 1, 0, 5], [DAREFROM, 4, 1, 1], [DAREFROM, 0, 0, 6], [FOUR], [CAUGHT], [BROUGHT],
        [IFBRINGS, 0, 0], [IFBRINGS, 1, 3], [IFBRINGS, 4, 1], [IFBRINGS, 0, 4], [IFLOOKS, 0], [IFLOOKS, 5],
        [IFLOOKS, 6], [IFFINE, 1], [IFFINE, 3], [IFFINE, 0], [IFFINE, 4], [WITHOUT, 0], [WITHOUT, 1],
        [WITHOUT, 4], [FIRSTDAY], [TOLD], [WORTH], [FROM, 0, 1, 1],
    )
    GAMES = (
        ((), 1, 1, 1), ((2,), 1, 1, 3), ((1, 3), 0, 2, 2), ((1, 3), 2, 0, 2), ((3, 1), 1, 1, 1),
        ((0, 1, 2, 3), 2, 3, 2), ((3, 3, 3, 3), 5, 5, 3),
    )

    def test_changes_nothing(self):
        for (brings, looks, misdeeds, fine), call in product(self.GAMES, self.ASKS):
            laid = game(brings, looks, misdeeds, fine)
            self.assertEqual(held(*laid, call), [looks, misdeeds, fine, list(brings)], call)

    def test_answers_alike_once_more_behind_all_others(self):
        for laid in self.GAMES:
            calls = game(*laid)
            found = ask(*calls, *self.ASKS)[len(calls):]
            alone = [last(*calls, call) for call in self.ASKS]
            backward = ask(*calls, *reversed(self.ASKS))[len(calls):]
            self.assertEqual(found, alone)
            self.assertEqual(backward[::-1], alone)

    def test_follows_each_change(self):
        laid = game((1, 1), 1, 1, 1)
        asks = [[CAUGHT], [BROUGHT], [FIRSTDAY]]
        self.assertEqual(ask(*laid, *asks, [FINE, 3], *asks, [LOOKS, 0], *asks)[3:], [
            [0, 1, 9], [0, 4, 9], [0], [1], [0, 1, 25], [0, 8, 25], [0], [1], [0, 0, 1], [0, 1, 1], [1]])


class Told(unittest.TestCase):
    def test_by_hand(self):
        self.assertEqual(last(*game((), 0, 5, 1), [TOLD]), [0, 0, 5, 1])
        self.assertEqual(last(*game((3,), 1, 2, 3), [TOLD]), [1, 1, 2, 3, 3])
        self.assertEqual(last(*game((1, 0, 3, 2), 4, 5, 2), [TOLD]), [4, 4, 5, 2, 1, 0, 3, 2])

    def test_every_count_and_fine(self):
        for (looks, misdeeds), fine in product(COUNTS, (1, 2, 3)):
            self.assertEqual(last(*game((0, 1), looks, misdeeds, fine), [TOLD]), [2, looks, misdeeds, fine, 0, 1])

    def test_all_days(self):
        for brings in ALL_DAYS:
            self.assertEqual(last(*game(brings, 2, 1, 3), [TOLD]), [len(brings), 2, 1, 3, *brings])
