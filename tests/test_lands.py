"""Promises [1] to [5]: lands, years, dates."""

import copy
import unittest

import by_words
from by_words import FAR, all_lands, small_lands
from longyears.errors import NoDay, NoLand, NoYear
from longyears.lands import begin, date, is_land, is_long, long_years, next_long

NEAR = [-1000003, -401, -61, -60, -2, -1, 0, 1, 2, 59, 60, 61, 2026, 999983]
FAR_ONES = [-FAR, -FAR + 1, FAR - 1, FAR]


class IsLand(unittest.TestCase):
    def test_lands(self):
        for land in [*all_lands(200, 1), *small_lands(), (1, 0, 1, 0), (400, 59, 60, -10 ** 6)]:
            self.assertIs(is_land(land), True, land)

    def test_anything_else(self):
        for thing in by_words.NO_LAND:
            self.assertIs(is_land(thing), False, thing)

    def test_top_and_bottom_may_share_a_measure(self):
        self.assertIs(is_land((365, 2, 8, 0)), True)


class Years(unittest.TestCase):
    def test_begin_is_what_the_words_give(self):
        for land in all_lands(60, 2):
            for year in [*NEAR, *FAR_ONES]:
                self.assertEqual(begin(land, year), by_words.begin(land, year), (land, year))

    def test_begin_by_hand(self):
        self.assertEqual([begin((365, 1, 4, 0), year) for year in range(-4, 6)],
                         [-1461, -1096, -731, -366, 0, 365, 730, 1095, 1461, 1826])
        self.assertEqual(begin((1, 0, 1, -10 ** 6), 10 ** 30), 10 ** 30 - 10 ** 6)
        self.assertEqual(begin((400, 59, 60, 10 ** 6), FAR), (24059 * FAR + 10 ** 6) // 60)
        self.assertEqual(begin((365, 0, 1, 0), -1), -365)

    def test_is_long_where_a_year_has_a_day_more(self):
        for land in all_lands(60, 3):
            for year in [*NEAR, *FAR_ONES]:
                self.assertIs(is_long(land, year), by_words.is_long(land, year), (land, year))

    def test_is_long_by_hand(self):
        self.assertEqual([year for year in range(-8, 9) if is_long((365, 1, 4, 0), year)], [-5, -1, 3, 7])
        self.assertEqual([year for year in range(-8, 9) if is_long((365, 1, 4, 3), year)], [-8, -4, 0, 4, 8])

    def test_years_have_days_days_or_one_more(self):
        for land in all_lands(20, 4):
            for year in range(-70, 70):
                many = begin(land, year + 1) - begin(land, year)
                self.assertEqual(many, land[0] + (1 if is_long(land, year) else 0))


class Dates(unittest.TestCase):
    def test_day_by_day(self):
        for land in small_lands():
            expected = [(year, place) for year in range(-9, 9)
                        for place in range(by_words.begin(land, year + 1) - by_words.begin(land, year))]
            start = by_words.begin(land, -9)
            told = [date(land, start + k) for k in range(len(expected))]
            self.assertEqual(told, expected, land)

    def test_first_and_last_days_of_years(self):
        for land in all_lands(40, 5):
            for year in NEAR:
                start, end = by_words.begin(land, year), by_words.begin(land, year + 1)
                self.assertEqual(date(land, start), (year, 0))
                self.assertEqual(date(land, end - 1), (year, end - 1 - start))
                self.assertEqual(date(land, end), (year + 1, 0))

    def test_however_far(self):
        for land in all_lands(60, 6):
            for day in FAR_ONES:
                year, place = date(land, day)
                start, end = by_words.begin(land, year), by_words.begin(land, year + 1)
                self.assertTrue(start <= day < end, (land, day))
                self.assertEqual(place, day - start)

    def test_a_date_is_a_pair(self):
        self.assertIsInstance(date((365, 1, 4, 0), 1460), tuple)
        self.assertEqual(date((365, 1, 4, 0), 1460), (3, 365))
        self.assertEqual(date((1, 0, 1, 10 ** 6), -FAR), (-FAR - 10 ** 6, 0))


class LongYears(unittest.TestCase):
    def test_next_long_is_the_first_from_the_year_on(self):
        for land in all_lands(60, 7):
            for year in [*NEAR, *FAR_ONES]:
                found = [later for later in range(year, year + 60) if by_words.is_long(land, later)]
                expected = found[0] if land[1] > 0 else None
                self.assertEqual(next_long(land, year), expected, (land, year))

    def test_next_long_of_each_year(self):
        for land in small_lands():
            for year in range(-12, 12):
                found = [later for later in range(year, year + 6) if by_words.is_long(land, later)]
                self.assertEqual(next_long(land, year), found[0] if found else None, (land, year))

    def test_what_is_told_may_lie_beyond(self):
        # FAR is 40 more than a number that 60 divides, and the year ahead of such a number is long.
        self.assertEqual(next_long((365, 1, 60, 0), FAR), FAR + 19)

    def test_a_land_without_long_years(self):
        for land in [(365, 0, 1, 0), (1, 0, 60, 10 ** 6), (400, 0, 60, -10 ** 6)]:
            for year in [*NEAR, *FAR_ONES]:
                self.assertIsNone(next_long(land, year))
                self.assertIs(is_long(land, year), False)
            self.assertEqual(long_years(land, -FAR, FAR), 0)

    def test_long_years_of_each_span(self):
        for land in small_lands():
            for first in range(-6, 6):
                for last in range(first, 8):
                    expected = len([year for year in range(first, last) if by_words.is_long(land, year)])
                    self.assertEqual(long_years(land, first, last), expected, (land, first, last))

    def test_long_years_from_far_years_on(self):
        for land in all_lands(20, 8):
            for first in (-FAR, -1000003, FAR - 150):
                found = [by_words.is_long(land, year) for year in range(first, first + 150)]
                for many in (0, 1, 2, 59, 60, 61, 150):
                    self.assertEqual(long_years(land, first, first + many), sum(found[:many]))

    def test_long_years_over_all_years(self):
        for land in all_lands(40, 9):
            days, top, bottom, shift = land
            whole, rest = divmod(2 * FAR, bottom)
            over = [by_words.is_long(land, year) for year in range(-FAR, -FAR + rest)]
            self.assertEqual(long_years(land, -FAR, FAR), whole * top + sum(over), land)

    def test_spans_of_no_year(self):
        for land in all_lands(10, 10):
            for year in [*NEAR, *FAR_ONES]:
                self.assertEqual(long_years(land, year, year), 0)


class TheWhole(unittest.TestCase):
    """Promise [3], as far as it speaks of one land."""

    def test_each_date_has_one_day(self):
        for land in all_lands(20, 11):
            for year in (-FAR // 500, -3, 0, FAR // 500):
                for place in {0, land[0] - 1}:
                    self.assertEqual(date(land, begin(land, year) + place), (year, place))

    def test_long_years_are_spread_evenly(self):
        for land in small_lands():
            days, top, bottom, shift = land
            for first in range(-bottom, bottom + 1):
                for many in range(2 * bottom + 1):
                    just_below = many * top // bottom
                    just_above = -(-many * top // bottom)
                    self.assertIn(long_years(land, first, first + many), (just_below, just_above))

    def test_of_bottom_years_just_top_are_long(self):
        for land in all_lands(40, 12):
            days, top, bottom, shift = land
            for first in [*NEAR, -FAR, FAR - bottom]:
                self.assertEqual(long_years(land, first, first + bottom), top)

    def test_all_days_so_many_later_change_nothing_but_themselves(self):
        for land in [(365, 8, 33, 5), (354, 11, 30, 14), (1, 0, 1, 0), (3, 2, 5, -7)]:
            for later in (-30000, -1, 1, 7, 30000):
                moved = land[:3] + (land[3] + later * land[2],)
                for year in [*NEAR, *FAR_ONES]:
                    self.assertEqual(begin(moved, year), begin(land, year) + later)
                    self.assertIs(is_long(moved, year), is_long(land, year))
                    self.assertEqual(next_long(moved, year), next_long(land, year))
                for day in NEAR:
                    self.assertEqual(date(moved, day + later), date(land, day))

    def test_the_same_question_has_the_same_answer_and_changes_nothing(self):
        land = (365, 8, 33, 5)
        kept = copy.deepcopy(land)
        asked = [(begin, 7), (date, 7), (is_long, 7), (next_long, 7)]
        told = [function(land, number) for function, number in asked]
        for function, number in reversed(asked):
            function((1, 0, 1, 0), number)
        self.assertEqual([function(land, number) for function, number in asked], told)
        self.assertEqual(land, kept)
        thing = [365, [8], (33, [5])]
        self.assertIs(is_land(thing), False)
        self.assertEqual(thing, [365, [8], (33, [5])])


class Refusals(unittest.TestCase):
    def test_of_a_year(self):
        for function in (begin, is_long, next_long):
            by_words.check_refusals(self, function, [by_words.GOOD_LAND, 7],
                                    [(NoLand, by_words.NO_LAND), (NoYear, by_words.NO_YEAR)])

    def test_of_a_day(self):
        by_words.check_refusals(self, date, [by_words.GOOD_LAND, 7],
                                [(NoLand, by_words.NO_LAND), (NoDay, by_words.NO_DAY)])

    def test_of_a_span(self):
        by_words.check_refusals(self, long_years, [by_words.GOOD_LAND, 7, 9],
                                [(NoLand, by_words.NO_LAND), (NoYear, by_words.NO_YEAR),
                                 (NoYear, [*by_words.NO_YEAR, 6, -7, -FAR])])

    def test_last_less_than_first(self):
        for first, last in [(1, 0), (0, -1), (FAR, -FAR), (FAR, FAR - 1), (-FAR + 1, -FAR)]:
            self.assertIs(by_words.refusal(long_years, [by_words.GOOD_LAND, first, last]), NoYear)

    def test_land_goes_first(self):
        self.assertIs(by_words.refusal(long_years, [[365, 8, 33, 5], 1, 0]), NoLand)

    def test_a_land_without_long_years_refuses_too(self):
        for year in by_words.NO_YEAR:
            self.assertIs(by_words.refusal(next_long, [(365, 0, 1, 0), year]), NoYear)
            self.assertIs(by_words.refusal(is_long, [(365, 0, 1, 0), year]), NoYear)

    def test_the_farthest_are_not_refused(self):
        for number in (-FAR, FAR):
            for function in (begin, date, is_long, next_long):
                self.assertIsNone(by_words.refusal(function, [by_words.GOOD_LAND, number]))
            self.assertIsNone(by_words.refusal(long_years, [by_words.GOOD_LAND, number, number]))


if __name__ == "__main__":
    unittest.main()
