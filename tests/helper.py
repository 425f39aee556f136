"""Calls by name, lines of them, and a second way to what they must tell."""

from fractions import Fraction
from functools import lru_cache

from unlikedays.days import answers

BEGIN, DAY, DROP, BRINGS, LOOKS, MISDEEDS, FINE, WORTH, LOOK, DARE, FROM = range(11)

TOP = 4294967295
ABOVE_3 = (4, 5, 255, 256, 65536, 2147483647, 2147483648, TOP)
ABOVE_5 = (6, 7, 255, 256, 65536, 2147483647, 2147483648, TOP)
NOT_A_FINE = (0,) + ABOVE_3

PROBES = ([LOOKS, 0], [MISDEEDS, 0], [FINE, 1]) + tuple([BRINGS, day, 0] for day in range(4))


def flat(calls):
    return [number for call in calls for number in call]


def split(told):
    """The answers of a line, one list for each call."""
    found = []
    place = 0
    while place < len(told):
        size = told[place]
        found.append(told[place + 1:place + 1 + size])
        if len(found[-1]) != size or size < 1:
            raise AssertionError("counts don't fit: " + repr(told))
        place += 1 + size
    return found


def ask(*calls):
    """What each call of a line answers."""
    found = split(answers(flat(calls)))
    if len(found) != len(calls):
        raise AssertionError("so many answers: " + repr(found))
    return found


def last(*calls):
    return ask(*calls)[-1]


def held(*calls):
    """What an object holds behind these calls: looks, misdeeds, the fine, what each day brings."""
    found = [answer[0] for answer in ask(*calls, *PROBES)[len(calls):]]
    return found[:3] + [[brought for brought in found[3:] if brought != -2]]


def game(brings, looks, misdeeds, fine):
    """The calls that lay out such a game."""
    return [[BEGIN, looks, misdeeds, fine]] + [[DAY, brought] for brought in brings]


def fraction(answer):
    """The fraction of an answer, if it's told as it must be."""
    zero, above, below = answer
    if [type(number) for number in answer] != [int, int, int]:
        raise AssertionError("not whole numbers: " + repr(answer))
    if max(abs(above), below) >= 2 ** 31:
        raise AssertionError("too large: " + repr(answer))
    told = Fraction(above, below)
    if zero != 0 or (told.numerator, told.denominator) != (above, below):
        raise AssertionError("not a fraction as told: " + repr(answer))
    return told


def cases(brings, fine, looks, misdeeds):
    """The rows the inspector may take today, each by what comes of not daring, of daring."""
    rest = brings[1:]
    rows = [[second_worth(rest, fine, looks, misdeeds)]]
    if misdeeds > 0:
        rows[0].append(brings[0] + second_worth(rest, fine, looks, misdeeds - 1))
    if looks > 0:
        rows.append([second_worth(rest, fine, looks - 1, misdeeds)])
        if misdeeds > 0:
            rows[1].append(Fraction(-fine))
    return rows


def mean(row, dare):
    return row[0] if len(row) == 1 else (1 - dare) * row[0] + dare * row[1]


@lru_cache(maxsize=None)
def second_worth(brings, fine, looks, misdeeds):
    """The most that the other can make sure of, over all chances of daring.

    The least over the inspector's rows is a line with one bend at most, so its top lies
    at 0, at 1 or where both rows meet; no case of the document's rule is asked for.
    """
    if len(brings) == 0:
        return Fraction(0)
    rows = cases(brings, fine, looks, misdeeds)
    tries = [Fraction(0)] if misdeeds == 0 else [Fraction(0), Fraction(1)]
    if misdeeds > 0 and looks > 0:
        apart = rows[1][0] - rows[0][0]
        slope = apart - (rows[1][1] - rows[0][1])
        if slope != 0 and 0 <= apart / slope <= 1:
            tries.append(apart / slope)
    return max(min(mean(row, dare) for row in rows) for dare in tries)
