"""Lands: where years begin, which date a day has, which years are long."""

from longyears.errors import NoDay, NoLand, NoPlace, NoYear
from longyears.whole import is_between

MOST_DAYS = 400
MOST_BOTTOM = 60
MOST_SHIFT = 10 ** 6
FARTHEST = 10 ** 30


def is_land(thing):
    """Whether thing is a land (days, top, bottom, shift)."""
    if not isinstance(thing, tuple) or len(thing) != 4:
        return False
    days, top, bottom, shift = thing
    # bottom stands ahead of top here, since it must be a number before it can bound one.
    return (
        is_between(days, 1, MOST_DAYS)
        and is_between(bottom, 1, MOST_BOTTOM)
        and is_between(top, 0, bottom - 1)
        and is_between(shift, -MOST_SHIFT, MOST_SHIFT)
    )


def need_land(thing):
    """Refuse what is no land."""
    if not is_land(thing):
        raise NoLand("a land is a tuple (days, top, bottom, shift) within its bounds")


def need_year(thing):
    """Refuse what is no year that may be handed in."""
    if not is_between(thing, -FARTHEST, FARTHEST):
        raise NoYear("a year is a whole number from -10 ** 30 to 10 ** 30")


def need_years(first, last):
    """Refuse what are no years, or a last one that is less than the first."""
    need_year(first)
    need_year(last)
    if last < first:
        raise NoYear("the last year is no less than the first")


def need_day(thing):
    """Refuse what is no day that may be handed in."""
    if not is_between(thing, -FARTHEST, FARTHEST):
        raise NoDay("a day is a whole number from -10 ** 30 to 10 ** 30")


def need_days(first, last):
    """Refuse what are no days, or a last one that is less than the first."""
    need_day(first)
    need_day(last)
    if last < first:
        raise NoDay("the last day is no less than the first")


def need_place(land, thing):
    """Refuse what is no place that each year of the land has."""
    days = land[0]
    if not is_between(thing, 0, days - 1):
        raise NoPlace("a place is a whole number from 0 to days - 1 of its land")


def step_of(land):
    """How many days bottom years have together, wherever they begin."""
    days, top, bottom, shift = land
    return days * bottom + top


def first_day(land, year):
    """The day on which a year begins, also of years beyond those that may be handed in."""
    days, top, bottom, shift = land
    return (step_of(land) * year + shift) // bottom


def date_of(land, day):
    """The date of a day, also of days beyond those that may be handed in."""
    days, top, bottom, shift = land
    # A year begins no later than the day just where step * year + shift < (day + 1) * bottom.
    year = ((day + 1) * bottom - shift - 1) // step_of(land)
    return (year, day - first_day(land, year))


def added_days(land, year):
    """How much later a year begins than if all years had days days and year 0 began on day 0."""
    days, top, bottom, shift = land
    return (top * year + shift) // bottom


def begin(land, year):
    """The day on which a year begins."""
    need_land(land)
    need_year(year)
    return first_day(land, year)


def date(land, day):
    """The date of a day, a pair (year, place)."""
    need_land(land)
    need_day(day)
    return date_of(land, day)


def is_long(land, year):
    """Whether a year has a day more than days."""
    need_land(land)
    need_year(year)
    return added_days(land, year + 1) > added_days(land, year)


def next_long(land, year):
    """The first long year from a year on, None where there are none."""
    need_land(land)
    need_year(year)
    days, top, bottom, shift = land
    if top == 0:
        return None
    # The last year with no more added days than this one is long: the next one has one more.
    return ((added_days(land, year) + 1) * bottom - shift - 1) // top


def long_years(land, first, last):
    """How many years from first on to ahead of last are long."""
    need_land(land)
    need_years(first, last)
    return added_days(land, last) - added_days(land, first)
