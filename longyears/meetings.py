"""Meetings: on which days two lands have told days of their years at once."""

from longyears.lands import need_day, need_days, need_land, need_place, step_of
from longyears.whole import common_measure, is_whole, undoing_factor


def need_places(one, place_one, other, place_other):
    """Refuse the first that is none of the arguments that all questions here share."""
    need_land(one)
    need_place(one, place_one)
    need_land(other)
    need_place(other, place_other)


def placed_days(land, place):
    """The days with the place in bottom years; all others lie whole steps from one of these."""
    bottom, shift = land[2:]
    step = step_of(land)
    least = shift + place * bottom
    return [number // bottom for number in range(least, least + step * bottom, step)]


def shared_step(one, other):
    """The greatest number that divides both steps."""
    return common_measure(step_of(one), step_of(other))


def round_from(one, place_one, other, place_other, day):
    """After how many days all meetings come again; starts, of the one land's days; ends, of the other's; both rising.

    Just so far behind the day as an end lies at or behind a start, by less than a round, there is a meeting.
    """
    shared = shared_step(one, other)
    step_one = step_of(one)
    steps = step_of(other) // shared
    again = step_one * steps
    # lead is whole steps of the one land and, but for whole steps of the other, as much as shared.
    lead = undoing_factor(step_one // shared, steps) * step_one
    # Days that leave the same by shared meet at one_day + (other_day - one_day) // shared * lead, but for whole rounds.
    # A part of this hangs on one_day alone, and a part on other_day alone: so they need not be gone through in pairs.
    # Days that leave unlike never meet; rows two rounds wide keep their starts and ends a round apart.
    row = 2 * again
    starts = [
        (one_day // shared * lead - one_day + day) % again + one_day % shared * row
        for one_day in placed_days(one, place_one)
    ]
    ends = [
        other_day // shared * lead % again + other_day % shared * row
        for other_day in placed_days(other, place_other)
    ]
    later_ends = [end + again for end in ends]
    # The last end is behind all rows, so that each start has one behind it.
    return again, sorted(starts), sorted(ends + later_ends + [(shared + 1) * row])


def ends_ahead(starts, ends):
    """For each start how many ends are less; both rise, and the last end is greater than all starts."""
    ahead = []
    at = 0
    for start in starts:
        while ends[at] < start:
            at += 1
        ahead.append(at)
    return ahead


def next_day(one, place_one, other, place_other, day):
    """The first day from a day on with both places, None where there is none."""
    need_places(one, place_one, other, place_other)
    need_day(day)
    again, starts, ends = round_from(one, place_one, other, place_other, day)
    nearest = min([ends[at] - start for start, at in zip(starts, ends_ahead(starts, ends))])
    if nearest < again:
        return day + nearest
    return None


def days(one, place_one, other, place_other, first, last):
    """How many days from first on to ahead of last have both places."""
    need_places(one, place_one, other, place_other)
    need_days(first, last)
    again, starts, ends = round_from(one, place_one, other, place_other, first)
    rounds, rest = divmod(last - first, again)
    ahead = sum(ends_ahead(starts, ends))
    in_round = sum(ends_ahead([start + again for start in starts], ends)) - ahead
    in_rest = sum(ends_ahead([start + rest for start in starts], ends)) - ahead
    return rounds * in_round + in_rest


def is_parting(one, place_one, other, place_other, number):
    """Whether a number above 0 parts the places."""
    if step_of(one) % number != 0 or step_of(other) % number != 0:
        return False
    # Days whole steps apart leave the same by what divides the step, so bottom years stand for all.
    left = [day % number for day in placed_days(one, place_one)]
    return not any([day % number in left for day in placed_days(other, place_other)])


def parting(one, place_one, other, place_other):
    """The greatest number that parts the places, None where there are days with both."""
    need_places(one, place_one, other, place_other)
    # Where any number parts them, the greatest that divides both steps does too: it tells more days apart.
    number = shared_step(one, other)
    if is_parting(one, place_one, other, place_other, number):
        return number
    return None


def parts(one, place_one, other, place_other, thing):
    """Whether thing is a number that parts the places."""
    need_places(one, place_one, other, place_other)
    return is_whole(thing) and thing > 0 and is_parting(one, place_one, other, place_other, thing)
