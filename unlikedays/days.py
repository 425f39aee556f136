"""The calls on one object, one behind another, and what each answers."""

from unlikedays.play import Play

NO_SUCH_DAY = -2
NOTHING_THERE = -6
NOT_BEGUN = -11
OUT_OF_RANGE = -22
FULL = -28

MOST_DAYS = 4
MOST_BROUGHT = 3
MOST_LOOKS_OR_MISDEEDS = 5
LEAST_FINE = 1
MOST_FINE = 3

BEGIN = 0


class Session:
    """What one object holds; before it has begun, nothing of it is read."""

    def __init__(self):
        self.begun = False
        self.looks = 0
        self.misdeeds = 0
        self.fine = LEAST_FINE
        self.brings = []


def is_fine(number):
    return LEAST_FINE <= number and number <= MOST_FINE


def are_counts(looks, misdeeds):
    return looks <= MOST_LOOKS_OR_MISDEEDS and misdeeds <= MOST_LOOKS_OR_MISDEEDS


def fraction_told(fraction):
    return [0, fraction[0], fraction[1]]


def play_of(session):
    return Play(session.brings, session.fine)


def begin(session, numbers):
    if not are_counts(numbers[0], numbers[1]) or not is_fine(numbers[2]):
        return [OUT_OF_RANGE]
    session.begun = True
    session.looks = numbers[0]
    session.misdeeds = numbers[1]
    session.fine = numbers[2]
    session.brings = []
    return [0]


def add_day(session, numbers):
    if numbers[0] > MOST_BROUGHT:
        return [OUT_OF_RANGE]
    if len(session.brings) == MOST_DAYS:
        return [FULL]
    session.brings.append(numbers[0])
    return [len(session.brings) - 1]


def drop_day(session, numbers):
    if len(session.brings) == 0:
        return [NOTHING_THERE]
    session.brings.pop()
    return [len(session.brings)]


def change_brings(session, numbers):
    day = numbers[0]
    if day >= len(session.brings):
        return [NO_SUCH_DAY]
    if numbers[1] > MOST_BROUGHT:
        return [OUT_OF_RANGE]
    before = session.brings[day]
    session.brings[day] = numbers[1]
    return [before]


def change_looks(session, numbers):
    if numbers[0] > MOST_LOOKS_OR_MISDEEDS:
        return [OUT_OF_RANGE]
    before = session.looks
    session.looks = numbers[0]
    return [before]


def change_misdeeds(session, numbers):
    if numbers[0] > MOST_LOOKS_OR_MISDEEDS:
        return [OUT_OF_RANGE]
    before = session.misdeeds
    session.misdeeds = numbers[0]
    return [before]


def change_fine(session, numbers):
    if not is_fine(numbers[0]):
        return [OUT_OF_RANGE]
    before = session.fine
    session.fine = numbers[0]
    return [before]


def tell_worth(session, numbers):
    return fraction_told(play_of(session).worth(0, session.looks, session.misdeeds))


def tell_look(session, numbers):
    if len(session.brings) == 0:
        return [NOTHING_THERE]
    return fraction_told(play_of(session).look_chance(0, session.looks, session.misdeeds))


def tell_dare(session, numbers):
    if len(session.brings) == 0:
        return [NOTHING_THERE]
    return fraction_told(play_of(session).dare_chance(0, session.looks, session.misdeeds))


def tell_from(session, numbers):
    if numbers[0] >= len(session.brings):
        return [NO_SUCH_DAY]
    if not are_counts(numbers[1], numbers[2]):
        return [OUT_OF_RANGE]
    return fraction_told(play_of(session).worth(numbers[0], numbers[1], numbers[2]))


# By a call's number: what it does, and how many whole numbers stand behind it.
CALLS = (
    begin,
    add_day,
    drop_day,
    change_brings,
    change_looks,
    change_misdeeds,
    change_fine,
    tell_worth,
    tell_look,
    tell_dare,
    tell_from,
)
SIZES = (3, 1, 0, 2, 1, 1, 1, 0, 0, 0, 3)


def answer(session, number, numbers):
    if number != BEGIN and not session.begun:
        return [NOT_BEGUN]
    call = CALLS[number]
    return call(session, numbers)


def answers(calls):
    """For each call, in order: how many numbers are answered, then these."""
    session = Session()
    told = []
    place = 0
    while place < len(calls):
        number = calls[place]
        behind = place + 1 + SIZES[number]
        found = answer(session, number, calls[place + 1:behind])
        told.append(len(found))
        told.extend(found)
        place = behind
    return told
