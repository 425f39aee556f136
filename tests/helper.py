"""Calls by name, lines of them, and a second way to what they must tell."""

import unittest
from fractions import Fraction
from functools import lru_cache
from itertools import product

from unlikedays.days import answers

(
    BEGIN, DAY, DROP, BRINGS, LOOKS, MISDEEDS, FINE, WORTH, LOOK, DARE, FROM,
    LOOKFROM, DAREFROM, FOUR, CAUGHT, BROUGHT, IFBRINGS, IFLOOKS, IFFINE, WITHOUT, FIRSTDAY, TOLD,
) = range(22)

TOP = 4294967295
ABOVE_3 = (4, 5, 255, 256, 65536, 2147483647, 2147483648, TOP)
ABOVE_5 = (6, 7, 255, 256, 65536, 2147483647, 2147483648, TOP)
NOT_A_FINE = (0,) + ABOVE_3

ALL_DAYS = [brings for size in range(5) for brings in product(range(4), repeat=size)]

PROBES = ([LOOKS, 0], [MISDEEDS, 0], [FINE, 1]) + tuple([BRINGS, day, 0] for day in range(4))


def flat(calls):
    return [number for call in calls for number in call]


def split(told):
    """The answers of a line, one list for each call."""
    found = []
    place = 0
    while place < len(told):
        size = told[place]
        found.append(told[place + 1:place + 1 + size])
        if len(found[-1]) != size or size < 1:
            raise AssertionError("counts don't fit: " + repr(told))
        place += 1 + size
    return found


def ask(*calls):
    """What each call of a line answers."""
    found = split(answers(flat(calls)))
    if len(found) != len(calls):
        raise AssertionError("so many answers: " + repr(found))
    return found


def last(*calls):
    return ask(*calls)[-1]


def held(*calls):
    """What an object holds behind these calls: looks, misdeeds, the fine, what each day brings."""
    found = [answer[0] for answer in ask(*calls, *PROBES)[len(calls):]]
    return found[:3] + [[brought for brought in found[3:] if brought != -2]]


def game(brings, looks, misdeeds, fine):
    """The calls that lay out such a game."""
    return [[BEGIN, looks, misdeeds, fine]] + [[DAY, brought] for brought in brings]


class Refusing(unittest.TestCase):
    def refused(self, number, call, brings=(1, 0, 3), looks=2, misdeeds=4, fine=3):
        """In that game the call answers that number alone, and what is held stays as it was."""
        laid = game(brings, looks, misdeeds, fine)
        self.assertEqual(last(*laid, call), [number], call)
        self.assertEqual(held(*laid, call), [looks, misdeeds, fine, list(brings)], call)


def fraction(answer):
    """The fraction of an answer, if it's told as it must be."""
    zero, above, below = answer
    if [type(number) for number in answer] != [int, int, int]:
        raise AssertionError("not whole numbers: " + repr(answer))
    if max(abs(above), below) >= 2 ** 31:
        raise AssertionError("too large: " + repr(answer))
    told = Fraction(above, below)
    if zero != 0 or (told.numerator, told.denominator) != (above, below):
        raise AssertionError("not a fraction as told: " + repr(answer))
    return told


def fractions(answer):
    """The fractions that stand behind an answer's 0."""
    if len(answer) < 3 or len(answer) % 2 == 0:
        raise AssertionError("no fractions: " + repr(answer))
    return [fraction([answer[0]] + answer[place:place + 2]) for place in range(1, len(answer), 2)]


def cases(brings, fine, looks, misdeeds):
    """The rows the inspector may take today, each by what comes of not daring, of daring."""
    rest = brings[1:]
    rows = [[second_worth(rest, fine, looks, misdeeds)]]
    if misdeeds > 0:
        rows[0].append(brings[0] + second_worth(rest, fine, looks, misdeeds - 1))
    if looks > 0:
        rows.append([second_worth(rest, fine, looks - 1, misdeeds)])
        if misdeeds > 0:
            rows[1].append(Fraction(-fine))
    return rows


def mean(row, dare):
    return row[0] if len(row) == 1 else (1 - dare) * row[0] + dare * row[1]


@lru_cache(maxsize=None)
def second_worth(brings, fine, looks, misdeeds):
    """The most that the other can make sure of, over all chances of daring.

    The least over the inspector's rows is a line with one bend at most, so its top lies
    at 0, at 1 or where both rows meet; no case of the document's rule is asked for.
    """
    if len(brings) == 0:
        return Fraction(0)
    rows = cases(brings, fine, looks, misdeeds)
    tries = [Fraction(0)] if misdeeds == 0 else [Fraction(0), Fraction(1)]
    if misdeeds > 0 and looks > 0:
        apart = rows[1][0] - rows[0][0]
        slope = apart - (rows[1][1] - rows[0][1])
        if slope != 0 and 0 <= apart / slope <= 1:
            tries.append(apart / slope)
    return max(min(mean(row, dare) for row in rows) for dare in tries)


@lru_cache(maxsize=None)
def second_chances(brings, fine, looks, misdeeds):
    """The chance of looking, of daring, today; each from where its two lines meet."""
    rows = cases(brings, fine, looks, misdeeds)
    if misdeeds == 0 or rows[0][1] <= rows[0][0]:
        return Fraction(0), Fraction(0)
    if looks == 0:
        return Fraction(0), Fraction(1)
    (neither, dared_only), (looked_only, looked_dared) = rows
    slant = neither - dared_only - looked_only + looked_dared
    return (neither - dared_only) / slant, (neither - looked_only) / slant


def second_course(brings, fine, looks, misdeeds):
    """How likely the other's caught, and what's brought: all courses, day by day, from the first on."""
    caught = brought = Fraction(0)
    reached = {(looks, misdeeds): Fraction(1)}
    for day in range(len(brings)):
        behind = {}
        for (m, k), likely in reached.items():
            look, dare = second_chances(brings[day:], fine, m, k)
            caught += likely * look * dare
            brought += likely * (1 - look) * dare * brings[day]
            for left, part in (((m - 1, k), look * (1 - dare)), ((m, k - 1), (1 - look) * dare),
                               ((m, k), (1 - look) * (1 - dare))):
                if part > 0:
                    behind[left] = behind.get(left, 0) + likely * part
        reached = behind
    return caught, brought


def second_first_day(brings, fine, looks, misdeeds):
    for day in range(len(brings)):
        if second_chances(brings[day:], fine, looks, misdeeds)[1] > 0:
            return day
    return -33
