"""Days of the week: in which years the day at a place is a told one."""

from longyears.errors import NoName, NoWeek
from longyears.lands import first_day, need_land, need_place, need_year, need_years, step_of
from longyears.whole import common_measure, is_between, is_whole

LONGEST_WEEK = 20


def need_week(thing):
    """Refuse what is no length of a week."""
    if not is_between(thing, 1, LONGEST_WEEK):
        raise NoWeek("a week has from 1 to 20 days")


def need_name(week, thing):
    """Refuse what is no day of the week."""
    if not is_between(thing, 0, week - 1):
        raise NoName("a day of the week is a whole number from 0 to one less than its days")


def need_asked(land, place, week, name):
    """Refuse the first that is none of the arguments that all questions here share."""
    need_land(land)
    need_place(land, place)
    need_week(week)
    need_name(week, name)


def ring_of(land, week):
    """The week's days times bottom."""
    bottom = land[2]
    return week * bottom


def shared_measure(land, week):
    """The greatest number that divides both step and the week's days times bottom."""
    return common_measure(step_of(land), ring_of(land, week))


def cycle_of(land, week):
    """After how many years the days of the week come again at each place."""
    return ring_of(land, week) // shared_measure(land, week)


def falls(land, place, week, name, year):
    """Whether the day at the place in the year is that day of the week."""
    return (first_day(land, year) + place) % week == name


def falling_years(land, place, week, name, first, last):
    """All years from first on to ahead of last in which the day is that day of the week."""
    return [year for year in range(first, last) if falls(land, place, week, name, year)]


def next_year(land, place, week, name, year):
    """The first year from a year on with that day of the week at the place, None where there is none."""
    need_asked(land, place, week, name)
    need_year(year)
    # What no year of a whole cycle has, no year has.
    for later in range(year, year + cycle_of(land, week)):
        if falls(land, place, week, name, later):
            return later
    return None


def how_many(land, place, week, name, first, last):
    """How many years from first on to ahead of last have that day of the week at the place."""
    need_asked(land, place, week, name)
    need_years(first, last)
    cycle = cycle_of(land, week)
    cycles, rest = divmod(last - first, cycle)
    in_rest = len(falling_years(land, place, week, name, first, first + rest))
    in_others = len(falling_years(land, place, week, name, first + rest, first + cycle))
    return cycles * (in_rest + in_others) + in_rest


def lengths(land, place, week, name):
    """The lengths from one year with that day of the week at the place to the next one, rising."""
    need_asked(land, place, week, name)
    cycle = cycle_of(land, week)
    years = falling_years(land, place, week, name, 0, cycle)
    # Behind the last of the cycle comes the first of the next one; with no years both lists are empty.
    nexts = years[1:] + [year + cycle for year in years[:1]]
    found = []
    for year, later in zip(years, nexts):
        if later - year not in found:
            found.append(later - year)
    return tuple(sorted(found))


def is_barring(land, place, week, name, measure):
    """Whether a number above 0 is a measure that bars."""
    days, top, bottom, shift = land
    if step_of(land) % measure != 0 or ring_of(land, week) % measure != 0:
        return False
    least = name * bottom
    left = (shift + place * bottom) % measure
    return left not in [number % measure for number in range(least, least + bottom)]


def barring(land, place, week, name):
    """The greatest measure that bars, None where there are years with that day of the week."""
    need_asked(land, place, week, name)
    # Where any measure bars, the greatest that divides both bars too: it tells more numbers apart.
    measure = shared_measure(land, week)
    if is_barring(land, place, week, name, measure):
        return measure
    return None


def bars(land, place, week, name, thing):
    """Whether thing is a measure that bars."""
    need_asked(land, place, week, name)
    return is_whole(thing) and thing > 0 and is_barring(land, place, week, name, thing)
