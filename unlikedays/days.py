"""The calls on one object, one behind another, and what each answers."""

from unlikedays.play import Play
from unlikedays.ratios import ZERO, is_less

NO_SUCH_DAY = -2
NOTHING_THERE = -6
NOT_BEGUN = -11
OUT_OF_RANGE = -22
FULL = -28
NONE_DARED = -33

MOST_DAYS = 4
MOST_BROUGHT = 3
MOST_LOOKS_OR_MISDEEDS = 5
LEAST_FINE = 1
MOST_FINE = 3

BEGIN = 0
NOT_REFUSED = 0


class Session:
    """What one object holds; before it has begun, nothing of it is read."""

    def __init__(self):
        self.begun = False
        self.looks = 0
        self.misdeeds = 0
        self.fine = LEAST_FINE
        self.brings = []


def is_fine(number):
    return LEAST_FINE <= number and number <= MOST_FINE


def are_counts(looks, misdeeds):
    return looks <= MOST_LOOKS_OR_MISDEEDS and misdeeds <= MOST_LOOKS_OR_MISDEEDS


def refusal_of_brings(session, day, brought):
    if day >= len(session.brings):
        return NO_SUCH_DAY
    if brought > MOST_BROUGHT:
        return OUT_OF_RANGE
    return NOT_REFUSED


def refusal_of_from(session, numbers):
    if numbers[0] >= len(session.brings):
        return NO_SUCH_DAY
    if not are_counts(numbers[1], numbers[2]):
        return OUT_OF_RANGE
    return NOT_REFUSED


def fraction_told(fraction):
    return [0, fraction[0], fraction[1]]


def play_of(session):
    return Play(session.brings, session.fine)


def worth_with_days(session, brings):
    """What it would be worth, were these the days."""
    return Play(brings, session.fine).worth(0, session.looks, session.misdeeds)


def begin(session, numbers):
    if not are_counts(numbers[0], numbers[1]) or not is_fine(numbers[2]):
        return [OUT_OF_RANGE]
    session.begun = True
    session.looks = numbers[0]
    session.misdeeds = numbers[1]
    session.fine = numbers[2]
    session.brings = []
    return [0]


def add_day(session, numbers):
    if numbers[0] > MOST_BROUGHT:
        return [OUT_OF_RANGE]
    if len(session.brings) == MOST_DAYS:
        return [FULL]
    session.brings.append(numbers[0])
    return [len(session.brings) - 1]


def drop_day(session, numbers):
    if len(session.brings) == 0:
        return [NOTHING_THERE]
    session.brings.pop()
    return [len(session.brings)]


def change_brings(session, numbers):
    day = numbers[0]
    refusal = refusal_of_brings(session, day, numbers[1])
    if refusal != NOT_REFUSED:
        return [refusal]
    before = session.brings[day]
    session.brings[day] = numbers[1]
    return [before]


def change_looks(session, numbers):
    if numbers[0] > MOST_LOOKS_OR_MISDEEDS:
        return [OUT_OF_RANGE]
    before = session.looks
    session.looks = numbers[0]
    return [before]


def change_misdeeds(session, numbers):
    if numbers[0] > MOST_LOOKS_OR_MISDEEDS:
        return [OUT_OF_RANGE]
    before = session.misdeeds
    session.misdeeds = numbers[0]
    return [before]


def change_fine(session, numbers):
    if not is_fine(numbers[0]):
        return [OUT_OF_RANGE]
    before = session.fine
    session.fine = numbers[0]
    return [before]


def tell_worth(session, numbers):
    return fraction_told(worth_with_days(session, session.brings))


def tell_look(session, numbers):
    if len(session.brings) == 0:
        return [NOTHING_THERE]
    return fraction_told(play_of(session).look_chance(0, session.looks, session.misdeeds))


def tell_dare(session, numbers):
    if len(session.brings) == 0:
        return [NOTHING_THERE]
    return fraction_told(play_of(session).dare_chance(0, session.looks, session.misdeeds))


def tell_from(session, numbers):
    refusal = refusal_of_from(session, numbers)
    if refusal != NOT_REFUSED:
        return [refusal]
    return fraction_told(play_of(session).worth(numbers[0], numbers[1], numbers[2]))


def tell_look_from(session, numbers):
    refusal = refusal_of_from(session, numbers)
    if refusal != NOT_REFUSED:
        return [refusal]
    return fraction_told(play_of(session).look_chance(numbers[0], numbers[1], numbers[2]))


def tell_dare_from(session, numbers):
    refusal = refusal_of_from(session, numbers)
    if refusal != NOT_REFUSED:
        return [refusal]
    return fraction_told(play_of(session).dare_chance(numbers[0], numbers[1], numbers[2]))


def tell_four(session, numbers):
    if len(session.brings) == 0 or session.looks == 0 or session.misdeeds == 0:
        return [NOTHING_THERE]
    four = play_of(session).four_of(0, session.looks, session.misdeeds)
    found = [0]
    for fraction in (four.looked_dared, four.looked_only, four.dared_only, four.neither):
        found.extend(fraction)
    return found


def tell_caught(session, numbers):
    return fraction_told(play_of(session).caught(0, session.looks, session.misdeeds))


def tell_brought(session, numbers):
    return fraction_told(play_of(session).brought(0, session.looks, session.misdeeds))


def tell_if_brings(session, numbers):
    day = numbers[0]
    refusal = refusal_of_brings(session, day, numbers[1])
    if refusal != NOT_REFUSED:
        return [refusal]
    brings = session.brings[:day] + [numbers[1]] + session.brings[day + 1:]
    return fraction_told(worth_with_days(session, brings))


def tell_if_looks(session, numbers):
    if numbers[0] > MOST_LOOKS_OR_MISDEEDS:
        return [OUT_OF_RANGE]
    return fraction_told(play_of(session).worth(0, numbers[0], session.misdeeds))


def tell_if_fine(session, numbers):
    if not is_fine(numbers[0]):
        return [OUT_OF_RANGE]
    return fraction_told(Play(session.brings, numbers[0]).worth(0, session.looks, session.misdeeds))


def tell_without(session, numbers):
    day = numbers[0]
    if day >= len(session.brings):
        return [NO_SUCH_DAY]
    return fraction_told(worth_with_days(session, session.brings[:day] + session.brings[day + 1:]))


def tell_first_day(session, numbers):
    play = play_of(session)
    for day in range(len(session.brings)):
        if is_less(ZERO, play.dare_chance(day, session.looks, session.misdeeds)):
            return [day]
    return [NONE_DARED]


def tell_all(session, numbers):
    return [len(session.brings), session.looks, session.misdeeds, session.fine] + session.brings


# By a call's number: what it does, and how many whole numbers stand behind it.
CALLS = (
    begin,
    add_day,
    drop_day,
    change_brings,
    change_looks,
    change_misdeeds,
    change_fine,
    tell_worth,
    tell_look,
    tell_dare,
    tell_from,
    tell_look_from,
    tell_dare_from,
    tell_four,
    tell_caught,
    tell_brought,
    tell_if_brings,
    tell_if_looks,
    tell_if_fine,
    tell_without,
    tell_first_day,
    tell_all,
)
SIZES = (3, 1, 0, 2, 1, 1, 1, 0, 0, 0, 3, 3, 3, 0, 0, 0, 2, 1, 1, 1, 0, 0)


def answer(session, number, numbers):
    if number != BEGIN and not session.begun:
        return [NOT_BEGUN]
    call = CALLS[number]
    return call(session, numbers)


def answers(calls):
    """For each call, in order: how many numbers are answered, then these."""
    session = Session()
    told = []
    place = 0
    while place < len(calls):
        number = calls[place]
        behind = place + 1 + SIZES[number]
        found = answer(session, number, calls[place + 1:behind])
        told.append(len(found))
        told.extend(found)
        place = behind
    return told
