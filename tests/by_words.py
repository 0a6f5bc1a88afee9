"""What the document's words give, year by year and day by day, and things to ask with."""

import itertools
import math
import random
from fractions import Fraction

FAR = 10 ** 30


def begin(land, year):
    days, top, bottom, shift = land
    step = days * bottom + top
    return math.floor(Fraction(step * year + shift, bottom))


def is_long(land, year):
    return begin(land, year + 1) - begin(land, year) == land[0] + 1


def falls(land, place, week, name, year):
    return (begin(land, year) + place - name) % week == 0


def date(land, day):
    """Found from a near year on by going from year to year."""
    year = day // land[0] // 2
    while abs(day - begin(land, year)) > 5 * (land[0] + 1):
        year += (day - begin(land, year)) // (land[0] + 1)
    while begin(land, year) > day:
        year -= 1
    while begin(land, year + 1) <= day:
        year += 1
    return (year, day - begin(land, year))


def days_with(land, place, first, last):
    """All days from first on to ahead of last with the place, year by year."""
    year = date(land, first)[0]
    found = []
    while begin(land, year) < last:
        day = begin(land, year) + place
        if first <= day < last and day < begin(land, year + 1):
            found.append(day)
        year += 1
    return found


def places(land, first, last):
    """The places of all days from first on to ahead of last, a list, the days gone through one by one."""
    year, place = date(land, first)
    ends = begin(land, year + 1)
    found = []
    for day in range(first, last):
        if day == ends:
            year, place = year + 1, 0
            ends = begin(land, year + 1)
        found.append(place)
        place += 1
    return found


def bars(land, place, week, name, measure):
    days, top, bottom, shift = land
    step = days * bottom + top
    left = (shift + place * bottom) % measure
    divides = step % measure == 0 and week * bottom % measure == 0
    return divides and all((name * bottom + k) % measure != left for k in range(bottom))


def small_lands():
    """All lands of few days, and few of each other part."""
    for days, bottom in itertools.product((1, 2, 3, 6), range(1, 6)):
        for top, shift in itertools.product(range(bottom), (-7, -1, 0, 3)):
            yield (days, top, bottom, shift)


EDGE_LANDS = [
    (days, top, bottom, shift)
    for days in (1, 400)
    for top, bottom in ((0, 1), (0, 60), (59, 60), (1, 60))
    for shift in (-10 ** 6, 10 ** 6)
]

KNOWN_LANDS = [(365, 1, 4, 0), (365, 8, 33, 5), (354, 11, 30, 14), (365, 0, 1, 0), (364, 0, 7, -3)]


def some_lands(count, seed):
    chance = random.Random(seed)
    for _ in range(count):
        bottom = chance.randint(1, 60)
        yield (
            chance.randint(1, 400), chance.randint(0, bottom - 1), bottom,
            chance.randint(-10 ** 6, 10 ** 6),
        )


def all_lands(count, seed):
    return [*KNOWN_LANDS, *EDGE_LANDS, *some_lands(count, seed)]


# Things that are no whole number, as numbers, truths, None, texts, lists and tuples make them.
NO_WHOLE = [
    True, False, None, "", "1", "0", "a year", "~" * 200, [], [0], [1], (), (0,), (1,), (1, 2),
    [[[[[[[[[[]]]]]]]]]], ((((((((((1,),),),),),),),),),), [None, True, "1", (1, [2])],
]
HUGE = [10 ** 40 - 1, -(10 ** 40 - 1)]
NO_YEAR = [*NO_WHOLE, *HUGE, FAR + 1, -FAR - 1]
NO_DAY = NO_YEAR
NO_WEEK = [*NO_WHOLE, *HUGE, 0, -1, 21]

GOOD_LAND = (365, 8, 33, 5)


def put(land, at, part):
    return land[:at] + (part,) + land[at + 1:]


def wrong_parts():
    beyond = ([0, -1, 401], [-1, 33, 34], [0, -1, 61, 8], [-10 ** 6 - 1, 10 ** 6 + 1])
    for at, parts in enumerate(beyond):
        for part in [*parts, *HUGE, *NO_WHOLE]:
            yield put(GOOD_LAND, at, part)


NO_LAND = [
    *NO_WHOLE, *HUGE, 365, list(GOOD_LAND), GOOD_LAND[:3], GOOD_LAND + (0,), (GOOD_LAND,), [GOOD_LAND],
    (GOOD_LAND,) * 4, "365, 8, 33, 5", (400, 1, 1, 0), (400, 60, 60, 0), (1, 0, 0, 0), *wrong_parts(),
]


def no_place(land):
    return [*NO_WHOLE, *HUGE, -1, land[0], land[0] + 1]


def no_name(week):
    return [*NO_WHOLE, *HUGE, -1, week, week + 1]


def check_refusals(case, function, good, wrongs):
    """wrongs: for each argument its error class and things that are none, in the arguments' order."""
    for at, (error, things) in enumerate(wrongs):
        for thing in things:
            later_wrong = [more[1][-1] for more in wrongs[at + 1:]]
            for rest in (good[at + 1:], [*later_wrong, *good[at + 1 + len(later_wrong):]]):
                case.assertIs(refusal(function, [*good[:at], thing, *rest]), error, (at, thing, rest))


def refusal(function, arguments):
    """The very class of what is raised, None where nothing is."""
    try:
        function(*arguments)
    except Exception as raised:
        return type(raised)
    return None
