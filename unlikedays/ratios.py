"""Fractions as pairs: what stands above, and below (1 or more), with nothing in common."""

ZERO = (0, 1)
ONE = (1, 1)


def common_part(first, second):
    """The greatest whole number that goes into both; the second is 1 or more."""
    while second > 0:
        rest = first % second
        first = second
        second = rest
    return first


def ratio(above, below):
    """The fraction of two whole numbers, the second of which isn't 0."""
    if below < 0:
        return ratio(-above, -below)
    part = common_part(above, below)
    return (above // part, below // part)


def plus(first, second):
    return ratio(first[0] * second[1] + second[0] * first[1], first[1] * second[1])


def minus(first, second):
    return ratio(first[0] * second[1] - second[0] * first[1], first[1] * second[1])


def times(first, second):
    return ratio(first[0] * second[0], first[1] * second[1])


def over(first, second):
    """The first divided by the second, which isn't 0."""
    return ratio(first[0] * second[1], first[1] * second[0])


def is_less(first, second):
    return first[0] * second[1] < second[0] * first[1]
