"""How both play best, day by day, and what it's worth to the one who may dare."""

from unlikedays.ratios import ONE, ZERO, is_less, minus, over, plus, times


class Four:
    """What stands for each of a day's four cases."""

    def __init__(self, looked_dared, looked_only, dared_only, neither):
        self.looked_dared = looked_dared
        self.looked_only = looked_only
        self.dared_only = dared_only
        self.neither = neither


def chance_to_look(four):
    """The chance by which to dare or not is alike to the other."""
    if not is_less(four.neither, four.dared_only):
        return ZERO
    gain = minus(four.dared_only, four.neither)
    loss = minus(four.looked_only, four.looked_dared)
    return over(gain, plus(gain, loss))


def chance_to_dare(four):
    """The chance by which to look or not is alike to the inspector."""
    if not is_less(four.neither, four.dared_only):
        return ZERO
    cost = minus(four.looked_only, four.neither)
    use = minus(four.dared_only, four.looked_dared)
    return over(cost, plus(cost, use))


def mean_of(four, look, dare):
    """What the four cases come to in the mean, by these chances of looking, of daring."""
    unlooked = plus(four.neither, times(dare, minus(four.dared_only, four.neither)))
    looked = plus(four.looked_only, times(dare, minus(four.looked_dared, four.looked_only)))
    return plus(unlooked, times(look, minus(looked, unlooked)))


class Play:
    """The days, by what each brings, and the fine."""

    def __init__(self, brings, fine):
        self.brings = brings
        self.fine = fine

    def worth(self, day, looks, misdeeds):
        """What it's worth from that day on, which may be the one behind the last."""
        if day == len(self.brings) or misdeeds == 0:
            return ZERO
        if looks == 0:
            return self.worth_unwatched(day, misdeeds)
        four = self.four_of(day, looks, misdeeds)
        # Daring and not daring come to the same by this chance, so not daring tells for both.
        chance = chance_to_look(four)
        return plus(four.neither, times(chance, minus(four.looked_only, four.neither)))

    def worth_unwatched(self, day, misdeeds):
        dared = self.worth_dared(day, 0, misdeeds)
        neither = self.worth(day + 1, 0, misdeeds)
        return dared if is_less(neither, dared) else neither

    def worth_dared(self, day, looks, misdeeds):
        """What comes of daring unseen that day."""
        return plus((self.brings[day], 1), self.worth(day + 1, looks, misdeeds - 1))

    def four_of(self, day, looks, misdeeds):
        """What comes of that day's four cases, all played best behind, with one look and one misdeed at least."""
        return Four(
            (-self.fine, 1),
            self.worth(day + 1, looks - 1, misdeeds),
            self.worth_dared(day, looks, misdeeds),
            self.worth(day + 1, looks, misdeeds),
        )

    def look_chance(self, day, looks, misdeeds):
        if looks == 0 or misdeeds == 0:
            return ZERO
        return chance_to_look(self.four_of(day, looks, misdeeds))

    def dare_chance(self, day, looks, misdeeds):
        if misdeeds == 0:
            return ZERO
        if looks == 0:
            return self.dare_chance_unwatched(day, misdeeds)
        return chance_to_dare(self.four_of(day, looks, misdeeds))

    def dare_chance_unwatched(self, day, misdeeds):
        neither = self.worth(day + 1, 0, misdeeds)
        return ONE if is_less(neither, self.worth_dared(day, 0, misdeeds)) else ZERO

    def mean_today(self, cases, day, looks, misdeeds):
        """The mean of what stands for each case of that day, with one look and one misdeed at least."""
        four = self.four_of(day, looks, misdeeds)
        return mean_of(cases, chance_to_look(four), chance_to_dare(four))

    def caught(self, day, looks, misdeeds):
        """How likely the other's caught from that day on."""
        if day == len(self.brings) or looks == 0 or misdeeds == 0:
            return ZERO
        cases = Four(
            ONE,
            self.caught(day + 1, looks - 1, misdeeds),
            self.caught(day + 1, looks, misdeeds - 1),
            self.caught(day + 1, looks, misdeeds),
        )
        return self.mean_today(cases, day, looks, misdeeds)

    def brought(self, day, looks, misdeeds):
        """What's brought unseen from that day on, in the mean."""
        if day == len(self.brings) or misdeeds == 0:
            return ZERO
        # Unwatched nobody's caught, so all that it's worth is brought.
        if looks == 0:
            return self.worth_unwatched(day, misdeeds)
        cases = Four(
            ZERO,
            self.brought(day + 1, looks - 1, misdeeds),
            plus((self.brings[day], 1), self.brought(day + 1, looks, misdeeds - 1)),
            self.brought(day + 1, looks, misdeeds),
        )
        return self.mean_today(cases, day, looks, misdeeds)
