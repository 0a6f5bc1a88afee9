"""Meetings: on which days two lands have told days of their years at once."""

from longyears.lands import first_day, need_day, need_days, need_land, need_place, step_of
from longyears.whole import common_measure, is_whole, undoing_factor


def need_places(one, place_one, other, place_other):
    """Refuse the first that is none of the arguments that all questions here share."""
    need_land(one)
    need_place(one, place_one)
    need_land(other)
    need_place(other, place_other)


def placed_days(land, place):
    """The days with the place in bottom years; all others lie whole steps from one of these."""
    bottom = land[2]
    return [first_day(land, year) + place for year in range(bottom)]


def shared_step(one, other):
    """The greatest number that divides both steps."""
    return common_measure(step_of(one), step_of(other))


def full_round(one, other):
    """After how many days all meetings of two lands come again."""
    return step_of(one) * step_of(other) // shared_step(one, other)


def meetings(one, place_one, other, place_other):
    """The meetings, one for each of those that lie no whole round apart."""
    shared = shared_step(one, other)
    steps = step_of(other) // shared
    factor = undoing_factor(step_of(one) // shared, steps)
    # From its own day on the one land goes as many steps as lead to whole steps from the other land's day.
    return [
        day + ((later - day) // shared * factor % steps) * step_of(one)
        for day in placed_days(one, place_one)
        for later in placed_days(other, place_other)
        if (later - day) % shared == 0
    ]


def next_day(one, place_one, other, place_other, day):
    """The first day from a day on with both places, None where there is none."""
    need_places(one, place_one, other, place_other)
    need_day(day)
    again = full_round(one, other)
    met = meetings(one, place_one, other, place_other)
    return min([day + (meeting - day) % again for meeting in met], default=None)


def days(one, place_one, other, place_other, first, last):
    """How many days from first on to ahead of last have both places."""
    need_places(one, place_one, other, place_other)
    need_days(first, last)
    again = full_round(one, other)
    met = meetings(one, place_one, other, place_other)
    return sum([(last - meeting - 1) // again - (first - meeting - 1) // again for meeting in met])


def is_parting(one, place_one, other, place_other, number):
    """Whether a number above 0 parts the places."""
    if step_of(one) % number != 0 or step_of(other) % number != 0:
        return False
    # Days whole steps apart leave the same by what divides the step, so bottom years stand for all.
    left = [day % number for day in placed_days(one, place_one)]
    return not any([day % number in left for day in placed_days(other, place_other)])


def parting(one, place_one, other, place_other):
    """The greatest number that parts the places, None where there are days with both."""
    need_places(one, place_one, other, place_other)
    # Where any number parts them, the greatest that divides both steps does too: it tells more days apart.
    number = shared_step(one, other)
    if is_parting(one, place_one, other, place_other, number):
        return number
    return None


def parts(one, place_one, other, place_other, thing):
    """Whether thing is a number that parts the places."""
    need_places(one, place_one, other, place_other)
    return is_whole(thing) and thing > 0 and is_parting(one, place_one, other, place_other, thing)
