"""What holds over the whole program, from what it tells itself."""

import unittest
from fractions import Fraction
from itertools import product

from tests.helper import (
    ALL_DAYS, BROUGHT, CAUGHT, DARE, DAREFROM, FROM, LOOK, LOOKFROM, MISDEEDS, TOLD, WITHOUT, WORTH, ask, fraction,
    game,
)

COUNTS = tuple(product(range(6), repeat=2))
SOME_COUNTS = ((0, 1), (0, 3), (1, 1), (1, 2), (2, 1), (2, 2), (3, 2), (5, 5))


def told_from(brings, fine, number):
    """What that call tells of each day with each count of looks, of misdeeds."""
    told = {}
    laid = game(brings, 0, 0, fine)
    for day in range(len(brings)):
        found = ask(*laid, *[[number, day, *counts] for counts in COUNTS])[len(laid):]
        for counts, answer in zip(COUNTS, found):
            told[(day, *counts)] = fraction(answer)
    return told


class Best:
    """The most, or least, that one of both comes to against the other's chances."""

    def __init__(self, brings, fine, chances):
        self.brings = brings
        self.fine = fine
        self.chances = chances

    def against_inspector(self, day, looks, misdeeds):
        if day == len(self.brings):
            return Fraction(0)
        look = self.chances[(day, looks, misdeeds)]
        tries = [self.today(day, looks, misdeeds, look, dare, self.against_inspector)
                 for dare in range(1 + min(misdeeds, 1))]
        return max(tries)

    def against_other(self, day, looks, misdeeds):
        if day == len(self.brings):
            return Fraction(0)
        dare = self.chances[(day, looks, misdeeds)]
        tries = [self.today(day, looks, misdeeds, look, dare, self.against_other)
                 for look in range(1 + min(looks, 1))]
        return min(tries)

    def today(self, day, looks, misdeeds, look, dare, behind):
        total = Fraction(-self.fine) * look * dare
        if look * (1 - dare) > 0:
            total += look * (1 - dare) * behind(day + 1, looks - 1, misdeeds)
        if (1 - look) * dare > 0:
            total += (1 - look) * dare * (self.brings[day] + behind(day + 1, looks, misdeeds - 1))
        if (1 - look) * (1 - dare) > 0:
            total += (1 - look) * (1 - dare) * behind(day + 1, looks, misdeeds)
        return total


class NobodyDoesBetter(unittest.TestCase):
    SOME_DAYS = ALL_DAYS[1:21] + ALL_DAYS[21:85:3] + ALL_DAYS[85::13]

    def test_the_other(self):
        for brings, fine in product(self.SOME_DAYS, (1, 2, 3)):
            best = Best(brings, fine, told_from(brings, fine, LOOKFROM))
            worth = told_from(brings, fine, FROM)
            for counts in SOME_COUNTS:
                self.assertEqual(best.against_inspector(0, *counts), worth[(0, *counts)], (brings, fine, counts))

    def test_the_inspector(self):
        for brings, fine in product(self.SOME_DAYS, (1, 2, 3)):
            best = Best(brings, fine, told_from(brings, fine, DAREFROM))
            worth = told_from(brings, fine, FROM)
            for counts in SOME_COUNTS:
                self.assertEqual(best.against_other(0, *counts), worth[(0, *counts)], (brings, fine, counts))


class WhatItIsWorth(unittest.TestCase):
    def test_what_is_brought_less_the_fine_as_often_as_caught(self):
        for brings, fine, looks in product(ALL_DAYS[:85] + ALL_DAYS[85::5], (1, 2, 3), range(6)):
            calls = [call for misdeeds in range(6)
                     for call in ([MISDEEDS, misdeeds], [WORTH], [CAUGHT], [BROUGHT])]
            found = ask(*game(brings, looks, 0, fine), *calls)[1 + len(brings):]
            for place in range(1, 24, 4):
                worth, caught, brought = [fraction(answer) for answer in found[place:place + 3]]
                self.assertEqual(worth, brought - fine * caught, (brings, fine, looks))
                self.assertTrue(0 <= caught <= 1 and 0 <= brought, (brings, fine, looks))

    def test_from_is_worth_and_the_chances_of_day_0(self):
        for brings, fine, (looks, misdeeds) in product(ALL_DAYS[1:85:5], (1, 2, 3), COUNTS):
            state = (0, looks, misdeeds)
            found = ask(*game(brings, looks, misdeeds, fine), [WORTH], [FROM, *state], [LOOK], [LOOKFROM, *state],
                        [DARE], [DAREFROM, *state])[1 + len(brings):]
            self.assertEqual(found[0::2], found[1::2])


class DayThatBringsNothing(unittest.TestCase):
    def test_without_it_worth_what_it_was(self):
        for brings, fine, (looks, misdeeds) in product(ALL_DAYS, (1, 2, 3), COUNTS):
            for day in range(len(brings)):
                if brings[day] == 0:
                    self.check_without(brings, fine, looks, misdeeds, day)

    def check_without(self, brings, fine, looks, misdeeds, day):
        found = ask(*game(brings, looks, misdeeds, fine), [WORTH], [WITHOUT, day], [TOLD])[1 + len(brings):]
        self.assertEqual(found[0], found[1], (brings, fine, looks, misdeeds, day))
        self.assertEqual(found[2], [len(brings), looks, misdeeds, fine, *brings])

    def test_never_laid_out_worth_and_played_alike(self):
        for brings, place in product(product(range(4), repeat=3), range(4)):
            longer = brings[:place] + (0,) + brings[place:]
            for looks, misdeeds in SOME_COUNTS:
                asks = ([WORTH], [CAUGHT], [BROUGHT])
                self.assertEqual(ask(*game(brings, looks, misdeeds, 2), *asks)[-3:],
                                 ask(*game(longer, looks, misdeeds, 2), *asks)[-3:], longer)
