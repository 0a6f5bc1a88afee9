"""Promises [1], [2], [3], [10] and [11]: lands alike, and lands told back."""

import itertools
import math
import random
import unittest

import by_words
from by_words import small_lands
from longyears.alike import alike, first_parting, lands_of
from longyears.errors import NoLand, NoNumber, NoSeen

# (one, other, the first year that parts them), which begin alike for as long as their bottoms let them.
LATE = [
    ((365, 1, 60, 1), (365, 1, 59, 0), 118),
    ((400, 1, 60, -999957), (400, 1, 57, -949962), 114),
    ((1, 1, 59, 1), (1, 1, 58, 0), 116),
    ((365, 1, 60, 20), (365, 1, 40, 0), 80),
    ((365, 1, 60, 0), (365, 0, 30, 0), 60),
    ((365, 59, 60, 0), (365, 58, 59, 0), 60),
]


def parting_year(one, other, years):
    """The first year that parts them, looking year by year."""
    for year in range(years):
        if by_words.begin(one, year) != by_words.begin(other, year):
            return year
    return None


def lowest(land):
    """Lands are alike just where these are the same: the land with no measure left in top and bottom."""
    days, top, bottom, shift = land
    shared = math.gcd(top, bottom)
    return (days, top // shared, bottom // shared, shift // shared)


class FirstParting(unittest.TestCase):
    def check(self, one, other, years):
        expected = parting_year(one, other, years)
        self.assertEqual(first_parting(one, other), expected, (one, other))
        self.assertIs(alike(one, other), expected is None, (one, other))
        return expected

    def test_small_lands_year_by_year(self):
        lands = [(days, top, bottom, shift) for days in (1, 2) for bottom in (1, 2, 3, 4, 6)
                 for top in range(bottom) for shift in (-3, -1, 0, 1, 2)]
        told = [self.check(one, other, 80) for one, other in itertools.product(lands, lands)]
        self.assertGreater(len([year for year in told if year is None]), len(lands))
        self.assertGreater(max(year for year in told if year is not None), 5)

    def test_great_lands_year_by_year(self):
        chance = random.Random(51)
        for one in by_words.all_lands(25, 51):
            days, top, bottom, shift = one
            near = max(-10 ** 6, min(10 ** 6, shift + chance.choice([-1, 1])))
            others = [one, (days, top, bottom, near), (days, (top + 1) % bottom, bottom, shift),
                      (days % 400 + 1, top, bottom, shift)]
            if bottom < 60:
                others.append((days, top, bottom + 1, shift))
            for other in others:
                self.check(one, other, 7500)

    def test_lands_that_part_late(self):
        for one, other, year in LATE:
            self.assertEqual(parting_year(one, other, 8000), year)
            self.assertEqual(first_parting(one, other), year)
            self.assertEqual(first_parting(other, one), year)
            self.assertIs(alike(one, other), False)

    def test_lands_that_are_alike_though_their_tuples_are_not(self):
        for one, other in [
            ((365, 1, 4, 0), (365, 15, 60, 0)), ((365, 1, 4, 0), (365, 15, 60, 14)), ((365, 1, 4, -1), (365, 2, 8, -1)),
            ((365, 2, 8, -2), (365, 2, 8, -1)), ((365, 0, 1, 7), (365, 0, 60, 479)), ((1, 0, 2, -1), (1, 0, 3, -2)),
            ((400, 58, 60, 10 ** 6), (400, 29, 30, 500000)), ((400, 30, 60, -10 ** 6), (400, 1, 2, -33334)),
        ]:
            self.assertIs(alike(one, other), True, (one, other))
            self.assertIs(alike(other, one), True)
            self.assertIsNone(first_parting(one, other))
            self.assertEqual([by_words.begin(one, year) for year in range(-300, 300)],
                             [by_words.begin(other, year) for year in range(-300, 300)])

    def test_lands_that_are_nearly_so(self):
        for one, other, year in [
            ((365, 15, 60, 14), (365, 15, 60, 15), 3), ((365, 0, 1, 7), (365, 0, 60, 480), 0),
            ((365, 0, 1, 0), (364, 0, 1, 0), 1), ((365, 1, 4, 0), (365, 1, 4, 1), 3),
        ]:
            self.assertEqual(first_parting(one, other), year)

    def test_by_what_is_left_in_lowest_terms(self):
        chance = random.Random(52)
        alike_ones = 0
        for _ in range(3000):
            days, bottom = chance.choice([1, 365, 400]), chance.choice([1, 2, 6, 12, 30, 60])
            top, shift = chance.randrange(bottom), chance.randint(-9, 9)
            one = (days, top, bottom, shift)
            scale = chance.randint(1, 60 // bottom)
            other = (days, scale * top, scale * bottom, scale * shift + chance.randint(-1, scale))
            told = alike(one, other)
            self.assertIs(told, lowest(one) == lowest(other), (one, other))
            alike_ones += told
        self.assertTrue(0 < alike_ones < 3000)

    def test_years_below_0_are_not_the_first(self):
        # In year -1 they are parted too, but years are looked at from 0 on.
        one, other = (365, 1, 4, 0), (365, 1, 4, 1)
        self.assertNotEqual([by_words.begin(one, year) for year in range(-9, 0)],
                            [by_words.begin(other, year) for year in range(-9, 0)])
        self.assertEqual(first_parting(one, other), 3)

    def test_a_land_is_alike_to_itself(self):
        for land in [*by_words.all_lands(30, 53), *small_lands()]:
            self.assertIs(alike(land, land), True)
            self.assertIsNone(first_parting(land, land))


def shared_free(top, bottom):
    return math.gcd(top, bottom) == 1


def begins(land, year):
    days, top, bottom, shift = land
    return ((days * bottom + top) * year + shift) // bottom


def looked_through(seen, most, days, shifts):
    """All lands of these days and shifts in which the seen years begin on their days, one by one."""
    found = []
    for bottom in range(1, most + 1):
        for top in range(bottom):
            if shared_free(top, bottom):
                for land in itertools.product(days, [top], [bottom], shifts):
                    if all(begins(land, year) == day for year, day in seen):
                        found.append(land)
    return sorted(found)


def looked_through_all_days(seen, most):
    """The same of all days from 1 to 400 and of all shifts that put the first seen year on its day."""
    found = []
    year, day = seen[0]
    for days, bottom in itertools.product(range(1, 401), range(1, most + 1)):
        for top in range(bottom):
            if shared_free(top, bottom):
                at_first = begins((days, top, bottom, 0), year)
                # A shift of bottom more is a day more: from two days too early to two too late all are tried.
                near = (day - at_first) * bottom
                for shift in range(near - 2 * bottom, near + 2 * bottom):
                    land = (days, top, bottom, shift)
                    if all(begins(land, other) == told for other, told in seen):
                        found.append(land)
    return sorted(found)


def seen_in(land, years):
    return tuple((year, by_words.begin(land, year)) for year in years)


class LandsOf(unittest.TestCase):
    def test_looked_through_all_days_tops_bottoms_and_shifts(self):
        for seen, most in [
            (((0, 0), (1, 3)), 3), (((-1, -4), (1, 4)), 3), (((0, 5), (1, 6), (2, 8)), 4), (((0, -2), (3, 9)), 2),
            (((-2, -9), (-1, -5), (0, -2), (1, 2), (2, 5), (3, 9)), 3), (((0, 0), (1, 4), (2, 6)), 3),
        ]:
            expected = looked_through(seen, most, range(1, 401), range(-70, 71))
            self.assertEqual(lands_of(seen, most), expected, (seen, most))

    def test_looked_through_of_some_lands(self):
        chance = random.Random(54)
        for count, most in itertools.product((2, 3, 6), (1, 2, 5, 12)):
            bottom = chance.randint(1, most)
            land = (chance.choice([1, 2, 365, 399, 400]), chance.randrange(bottom), bottom, chance.randint(-9, 9))
            years = sorted(chance.sample(range(-12, 13), count))
            seen = seen_in(land, years)
            told = lands_of(seen, most)
            self.assertEqual(told, looked_through_all_days(seen, most), (seen, most))
            self.assertIn(lowest(land), told)

    def test_looked_through_of_seen_years_of_chance(self):
        chance = random.Random(55)
        found = 0
        for _ in range(12):
            years = sorted(chance.sample(range(-4, 5), chance.randint(2, 4)))
            start = chance.randint(-9, 9)
            seen = tuple((year, start + 7 * year + chance.randint(0, 1)) for year in years)
            told = lands_of(seen, 6)
            self.assertEqual(told, looked_through_all_days(seen, 6), seen)
            found += len(told) > 0
        self.assertTrue(0 < found < 12)

    def test_by_hand(self):
        self.assertEqual(lands_of(((0, 0), (1, 365)), 1), [(365, 0, 1, 0)])
        self.assertEqual(lands_of(((0, 0), (1, 365)), 2), [(364, 1, 2, 1), (365, 0, 1, 0), (365, 1, 2, 0)])
        self.assertEqual(lands_of(((0, 0), (1, 365), (2, 730), (3, 1095), (4, 1461), (8, 2922)), 4), [(365, 1, 4, 0)])
        self.assertEqual(lands_of(((0, 0), (1, 1)), 1), [(1, 0, 1, 0)])

    def test_bounds_of_days(self):
        # Years of 401 days are long ones of a land of 400; those of 1 day are no long ones, of no land of 0.
        told = lands_of(((0, 0), (1, 401)), 12)
        self.assertEqual(told, looked_through_all_days(((0, 0), (1, 401)), 12))
        self.assertEqual({land[0] for land in told}, {400})
        self.assertEqual(lands_of(((0, 0), (1, 401)), 1), [])
        self.assertEqual({land[0] for land in lands_of(((0, 0), (1, 1)), 12)}, {1})
        self.assertEqual({land[0] for land in lands_of(((0, 0), (1, 400)), 12)}, {399, 400})

    def test_bounds_of_years_and_days(self):
        self.assertEqual(lands_of(((-10000, -10 ** 6), (10000, 10 ** 6)), 12), [(100, 0, 1, 0)])
        self.assertEqual(lands_of(((-10000, 10 ** 6), (10000, -10 ** 6)), 12), [])
        self.assertEqual(lands_of(((9999, 10 ** 6 - 400), (10000, 10 ** 6)), 1), [(400, 0, 1, -3000000)])
        self.assertEqual(lands_of(((-10000, -10 ** 6), (-9999, 1 - 10 ** 6)), 1), [(1, 0, 1, 10000 - 10 ** 6)])

    def test_shifts_beyond_the_bounds_of_lands(self):
        for seen in [((9999, -10 ** 6), (10000, 400 - 10 ** 6)), ((-10000, 10 ** 6 - 800), (-9998, 10 ** 6))]:
            told = lands_of(seen, 12)
            self.assertEqual(told, looked_through_all_days(seen, 12))
            self.assertGreater(len([land for land in told if abs(land[3]) > 10 ** 6]), 100)
            for land in told:
                self.assertEqual(seen_in(land, [year for year, day in seen]), seen)

    def test_shifts_on_both_sides_of_a_bound(self):
        told = lands_of(((0, 10 ** 6 // 12), (1, 10 ** 6 // 12 + 1)), 12)
        self.assertEqual([land for land in told if land[:3] == (1, 1, 12)],
                         [(1, 1, 12, shift) for shift in range(999996, 999996 + 11)])

    def test_seen_years_that_no_land_has(self):
        for seen in [((0, 0), (1, 0)), ((0, 5), (1, 3)), ((0, 0), (1, 402)), ((0, 0), (1, 10), (2, 30)),
                     ((0, 0), (2, 1)), ((0, 0), (2, 803)), ((0, 0), (1, 7), (2, 15), (3, 24), (4, 31)),
                     ((0, 0), (13, 13 * 7), (26, 26 * 7 + 2)), ((0, 10 ** 6), (1, -10 ** 6))]:
            self.assertEqual(lands_of(seen, 12), [], seen)

    def test_no_number_above_1_divides_top_and_bottom(self):
        for most in range(1, 13):
            told = lands_of(((0, 0), (1, 7)), most)
            self.assertEqual([land for land in told if math.gcd(land[1], land[2]) != 1], [])
            self.assertEqual([land for land in told if land[1] == 0], [(7, 0, 1, 0)])
            self.assertEqual(max(land[2] for land in told), most)

    def test_a_rising_list_of_tuples(self):
        told = lands_of(((-3, -9), (4, 12)), 12)
        self.assertIsInstance(told, list)
        self.assertEqual({type(land) for land in told}, {tuple})
        self.assertTrue(all(one < other for one, other in zip(told, told[1:])))
        self.assertGreater(len(told), 20)

    def test_the_list_is_the_askers_own(self):
        seen = ((0, 0), (1, 365))
        told = lands_of(seen, 2)
        kept = list(told)
        told.clear()
        self.assertEqual(lands_of(seen, 2), kept)
        self.assertIsNot(lands_of(seen, 2), lands_of(seen, 2))
        empty = lands_of(((0, 0), (1, 0)), 1)
        empty.append(7)
        self.assertEqual(lands_of(((0, 0), (1, 0)), 1), [])
        self.assertEqual(seen, ((0, 0), (1, 365)))


class TheWhole(unittest.TestCase):
    """Promise [3], as far as it speaks of lands alike and told back."""

    def test_all_days_so_many_later_change_nothing_but_themselves(self):
        lands = [(365, 8, 33, 5), (365, 1, 4, 0), (365, 2, 8, 1), (3, 2, 5, -7), (365, 1, 60, 1), (365, 1, 59, 0)]
        for one, other in itertools.product(lands, lands):
            for later in (-15000, -1, 1, 7, 15000):
                moved = [land[:3] + (land[3] + later * land[2],) for land in (one, other)]
                self.assertEqual(first_parting(*moved), first_parting(one, other))
                self.assertIs(alike(*moved), alike(one, other))

    def test_lands_told_back_so_many_days_later(self):
        for seen in [((0, 0), (1, 365)), ((-7, -20), (0, 3), (9, 33)), ((0, 0), (1, 0))]:
            told = lands_of(seen, 12)
            for later in (-900000, -1, 1, 900000):
                moved = tuple((year, day + later) for year, day in seen)
                self.assertEqual(lands_of(moved, 12), [land[:3] + (land[3] + later * land[2],) for land in told])

    def test_just_the_lands_that_begin_so(self):
        for land in [(365, 1, 4, 0), (354, 4, 11, 14), (400, 11, 12, -5), (1, 5, 7, 3)]:
            seen = seen_in(land, (-9999, -30, 0, 1, 777, 10000)) if land[0] == 1 else seen_in(land, (-30, 0, 1, 77))
            told = lands_of(seen, 12)
            self.assertIn(land, told)
            for other in told:
                self.assertEqual(seen_in(other, [year for year, day in seen]), seen)
                self.assertIs(other == land, alike(other, land))

    def test_the_same_question_has_the_same_answer(self):
        asked = [lambda: first_parting((365, 1, 4, 0), (365, 1, 4, 1)), lambda: lands_of(((0, 0), (1, 365)), 5)]
        told = [ask() for ask in asked]
        lands_of(((0, 1), (1, 8), (2, 15)), 12)
        self.assertEqual([ask() for ask in asked], told)


GOOD_SEEN = ((-3, -1100), (0, 0), (7, 2556))


def wrong_seen():
    beyond = [[-10001, 10001], [-10 ** 6 - 1, 10 ** 6 + 1]]
    for at, numbers in enumerate(beyond):
        for part in [*numbers, *by_words.HUGE, *by_words.NO_WHOLE]:
            # The pair stands where its year would, so that only the part itself is wrong.
            pair = (part, 0) if at == 0 else (9, part)
            yield (pair, (10, 10)) if part == -10001 else ((-20, 0), pair)


NO_SEEN = [
    *by_words.NO_WHOLE, *by_words.HUGE, 2, list(GOOD_SEEN), [list(pair) for pair in GOOD_SEEN], GOOD_SEEN[:1],
    ((0, 0),) * 2, tuple(list(pair) for pair in GOOD_SEEN), (GOOD_SEEN[0], [0, 0]), ([-3, 5], (0, 0)),
    tuple((year, year * 7) for year in range(7)), tuple((year, year * 7) for year in range(8)),
    ((0, 0), (1,)), ((0,), (1, 7)), ((0, 0), (1, 7, 1)), ((0, 0, 0), (1, 7)), ((0, 0), ()), ((0, 0), 1), (0, 1),
    ((1, 7), (0, 0)), ((0, 0), (2, 14), (1, 7)), ((0, 0), (0, 1)), ((0, 0), (1, 7), (1, 8)), ((0, 0), (1, 7), (1, 7)),
    ((0, 0), "17"), "((0, 0), (1, 7))", (GOOD_SEEN, GOOD_SEEN), (((0, 0), (1, 7)),), ((0, 0), ((1, 7),)),
    *wrong_seen(),
]
NO_MOST = [*by_words.NO_WHOLE, *by_words.HUGE, 0, -1, 13]


class Refusals(unittest.TestCase):
    def test_of_two_lands(self):
        for function in (alike, first_parting):
            by_words.check_refusals(self, function, [by_words.GOOD_LAND, (12, 1, 5, 3)],
                                    [(NoLand, by_words.NO_LAND), (NoLand, by_words.NO_LAND)])

    def test_of_seen_years(self):
        by_words.check_refusals(self, lands_of, [GOOD_SEEN, 12], [(NoSeen, NO_SEEN), (NoNumber, NO_MOST)])

    def test_of_seen_years_that_no_land_has(self):
        for most in NO_MOST:
            self.assertIs(by_words.refusal(lands_of, [((0, 0), (1, 0)), most]), NoNumber)

    def test_days_may_be_the_same_or_fall(self):
        for seen in [((0, 0), (1, 0)), ((0, 5), (1, 3)), ((0, 5), (1, 3), (2, 9))]:
            self.assertIsNone(by_words.refusal(lands_of, [seen, 12]))

    def test_bounds_that_are_not_refused(self):
        six = tuple((year, year * 7) for year in range(6))
        edge = ((-10000, -10 ** 6), (10000, 10 ** 6))
        other_edge = ((-10000, 10 ** 6), (10000, -10 ** 6))
        for seen, most in itertools.product([GOOD_SEEN, GOOD_SEEN[:2], six, edge, other_edge], (1, 12)):
            self.assertIsNone(by_words.refusal(lands_of, [seen, most]))
        for one, other in itertools.product(by_words.EDGE_LANDS, by_words.EDGE_LANDS):
            self.assertIsNone(by_words.refusal(alike, [one, other]))

    def test_what_is_refused_changes_nothing(self):
        seen = [[0, 0], [1, 365]]
        self.assertIs(by_words.refusal(lands_of, [seen, 2]), NoSeen)
        self.assertEqual(seen, [[0, 0], [1, 365]])
        self.assertEqual(lands_of(((0, 0), (1, 365)), 1), [(365, 0, 1, 0)])


if __name__ == "__main__":
    unittest.main()
