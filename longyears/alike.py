"""Alike lands, and lands told back: which lands begin their years on the same, or on told, days."""

from longyears.errors import NoNumber, NoSeen
from longyears.lands import MOST_DAYS, first_day, need_land, step_of
from longyears.whole import common_measure, is_between

FEWEST_SEEN = 2
MOST_SEEN = 6
FARTHEST_SEEN_YEAR = 10000
FARTHEST_SEEN_DAY = 10 ** 6
MOST_TOLD_BOTTOM = 12


def alike(one, other):
    """Whether all years begin on the same days in both lands."""
    return first_parting(one, other) is None


def first_parting(one, other):
    """The first year from 0 on that begins on unlike days, None where there is none."""
    need_land(one)
    need_land(other)
    # In each land the lengths of years come again after bottom years. Two rows that do so, and are alike over one
    # year less than both bottoms together, are alike for ever (Fine and Wilf); and so backward, as all comes again.
    for year in range(one[2] + other[2]):
        if first_day(one, year) != first_day(other, year):
            return year
    return None


def is_seen_year(thing):
    """Whether thing is a tuple (year, day) within the bounds of seen ones."""
    if not isinstance(thing, tuple) or len(thing) != 2:
        return False
    year, day = thing
    return (
        is_between(year, -FARTHEST_SEEN_YEAR, FARTHEST_SEEN_YEAR)
        and is_between(day, -FARTHEST_SEEN_DAY, FARTHEST_SEEN_DAY)
    )


def is_seen(thing):
    """Whether thing is a rising tuple of seen years, the years unlike."""
    if not isinstance(thing, tuple) or not FEWEST_SEEN <= len(thing) <= MOST_SEEN:
        return False
    if not all([is_seen_year(pair) for pair in thing]):
        return False
    # Since the years are unlike, pairs rise just where their years do.
    return all([pair[0] < later[0] for pair, later in zip(thing, thing[1:])])


def need_seen(thing):
    """Refuse what is no tuple of seen years."""
    if not is_seen(thing):
        raise NoSeen("seen years are a rising tuple of 2 to 6 tuples (year, day) within their bounds")


def need_most(thing):
    """Refuse what is no bound for bottom."""
    if not is_between(thing, 1, MOST_TOLD_BOTTOM):
        raise NoNumber("the greatest bottom is a whole number from 1 to 12")


def possible_days(seen):
    """The days that a land may have with which the seen years are not too near or too far apart."""
    year, day = seen[0]
    last_year, last_day = seen[-1]
    most = (last_day - day) // (last_year - year)
    # One less is possible too: all years between may be long.
    return [number for number in (most - 1, most) if 1 <= number <= MOST_DAYS]


def possible_shifts(seen, days, top, bottom):
    """All shifts with which the seen years begin on their days, rising."""
    step = step_of((days, top, bottom, 0))
    # Each seen year begins on its day with bottom shifts, one behind the other, from a least one on.
    leasts = [day * bottom - step * year for year, day in seen]
    return list(range(max(leasts), min(leasts) + bottom))


def lands_of(seen, most):
    """All lands in lowest terms, with bottom no more than most, in which the seen years begin on their days."""
    need_seen(seen)
    need_most(most)
    return sorted([
        (days, top, bottom, shift)
        for days in possible_days(seen)
        for bottom in range(1, most + 1)
        for top in range(bottom)
        if common_measure(top, bottom) == 1
        for shift in possible_shifts(seen, days, top, bottom)
    ])
