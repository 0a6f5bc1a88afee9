"""Promises [1], [2], [3], [6] and [7]: days of the week."""

import random
import unittest

import by_words
from by_words import FAR, all_lands, small_lands
from longyears.errors import NoLand, NoName, NoPlace, NoWeek, NoYear
from longyears.weeks import barring, bars, how_many, lengths, next_year

# A land whose years have 364 days each: in a week of 7 days each place keeps its day for ever.
KEPT = (364, 0, 1, 0)


def small_questions():
    """Lands of few days with each place, and all days of some weeks."""
    for land in small_lands():
        for place in {0, land[0] - 1}:
            for week in (1, 2, 4, 6, 7):
                for name in range(week):
                    yield land, place, week, name


def some_questions(count, seed):
    """Lands with edge places, in weeks of 1, of 20 and of some other number of days."""
    chance = random.Random(seed)
    for land in all_lands(count, seed):
        for week in (1, 20, chance.randint(2, 19)):
            for place in {0, land[0] - 1, chance.randint(0, land[0] - 1)}:
                yield land, place, week, chance.choice([0, week - 1, chance.randint(0, week - 1)])


def years_of(question, first, last):
    return [year for year in range(first, last) if by_words.falls(*question, year)]


def ring(question):
    """After so many years all comes again, whether or not it does earlier."""
    return question[2] * question[0][2]


class NextYear(unittest.TestCase):
    def test_first_from_each_year_on(self):
        for question in small_questions():
            years = years_of(question, -6, 6 + ring(question))
            for year in (-6, -1, 0, 1, 5):
                expected = next((later for later in years if later >= year), None)
                self.assertEqual(next_year(*question, year), expected, (question, year))

    def test_however_far(self):
        for question in some_questions(10, 21):
            for year in (-FAR, -2026, 0, FAR):
                years = years_of(question, year, year + ring(question))
                expected = years[0] if years else None
                self.assertEqual(next_year(*question, year), expected, (question, year))

    def test_the_last_year_of_a_cycle_is_found(self):
        # (13, 0, 1, 0) in a week of 14: each day comes just once in fourteen years.
        self.assertEqual(next_year((13, 0, 1, 0), 0, 14, 0, 1), 14)
        far = FAR - FAR % 14
        self.assertEqual(next_year((13, 0, 1, 0), 12, 14, 13, far), far + 13)

    def test_by_hand(self):
        self.assertEqual(next_year((365, 1, 4, 0), 0, 7, 0, 1), 6)
        self.assertEqual(next_year((365, 1, 4, 0), 0, 7, 0, 0), 0)
        self.assertEqual(next_year(KEPT, 363, 7, 6, -FAR), -FAR)
        self.assertIsNone(next_year(KEPT, 363, 7, 5, -FAR))


class HowMany(unittest.TestCase):
    def test_of_each_span(self):
        for question in small_questions():
            last_of_all = 2 * ring(question) + 3
            found = [by_words.falls(*question, year) for year in range(-3, last_of_all)]
            for first, last in [(-3, -3), (-3, -2), (-2, 0), (0, ring(question)), (-1, ring(question) + 2),
                                (1, last_of_all), (5, 5)]:
                expected = sum(found[first + 3:last + 3])
                self.assertEqual(how_many(*question, first, last), expected, (question, first, last))

    def test_however_far(self):
        for question in some_questions(6, 22):
            whole, rest = divmod(2 * FAR, ring(question))
            found = [by_words.falls(*question, year) for year in range(-FAR, -FAR + ring(question))]
            expected = whole * sum(found) + sum(found[:rest])
            self.assertEqual(how_many(*question, -FAR, FAR), expected, question)
            self.assertEqual(how_many(*question, -FAR, -FAR + rest), sum(found[:rest]), question)

    def test_spans_of_no_year(self):
        for question in some_questions(5, 23):
            for year in (-FAR, -1, 0, FAR):
                self.assertEqual(how_many(*question, year, year), 0)

    def test_by_hand(self):
        self.assertEqual(how_many((365, 1, 4, 0), 0, 7, 0, 0, 28), 4)
        self.assertEqual(how_many(KEPT, 0, 7, 0, -FAR, FAR), 2 * FAR)
        self.assertEqual(how_many(KEPT, 0, 7, 1, -FAR, FAR), 0)


class Lengths(unittest.TestCase):
    def check(self, question):
        years = years_of(question, -1, 2 * ring(question))
        expected = tuple(sorted({later - year for year, later in zip(years, years[1:])}))
        told = lengths(*question)
        self.assertIsInstance(told, tuple)
        self.assertEqual(told, expected, question)

    def test_between_one_year_and_the_next(self):
        for question in small_questions():
            self.check(question)

    def test_of_other_lands(self):
        for question in some_questions(8, 24):
            self.check(question)

    def test_at_most_three_and_the_greatest_the_sum_of_the_others(self):
        three = 0
        for question in [*small_questions(), *some_questions(60, 25)]:
            told = lengths(*question)
            self.assertLessEqual(len(told), 3)
            if len(told) == 3:
                three += 1
                self.assertEqual(told[2], told[0] + told[1], question)
        self.assertGreater(three, 0)

    def test_by_hand(self):
        self.assertEqual(lengths((365, 1, 4, 0), 0, 7, 0), (5, 6, 11))
        self.assertEqual(lengths((365, 0, 1, 0), 364, 7, 3), (7,))
        self.assertEqual(lengths((365, 8, 33, 5), 0, 1, 0), (1,))
        self.assertEqual(lengths(KEPT, 0, 7, 0), (1,))
        self.assertEqual(lengths(KEPT, 0, 7, 1), ())
        self.assertEqual(lengths((13, 0, 1, 0), 0, 14, 5), (14,))


class Barring(unittest.TestCase):
    def greatest(self, question):
        found = [measure for measure in range(1, ring(question) + 1) if by_words.bars(*question, measure)]
        return max(found, default=None)

    def test_the_greatest_that_bars(self):
        for question in [*small_questions(), *some_questions(4, 26)]:
            self.assertEqual(barring(*question), self.greatest(question), question)

    def test_just_where_no_year_has_it(self):
        barred = 0
        for question in [*small_questions(), *some_questions(10, 27)]:
            none = not years_of(question, 0, ring(question))
            self.assertIs(barring(*question) is not None, none, question)
            barred += none
        self.assertGreater(barred, 0)

    def test_what_never_comes(self):
        for land, place, week, name in [(KEPT, 0, 7, 1), ((400, 0, 60, 10 ** 6), 399, 20, 7),
                                        ((2, 0, 1, 0), 1, 2, 0), ((4, 1, 5, 0), 3, 7, 2)]:
            question = (land, place, week, name)
            self.assertEqual(years_of(question, -ring(question), ring(question)), [], question)
            for year in (-FAR, 0, FAR):
                self.assertIsNone(next_year(*question, year))
            self.assertEqual(how_many(*question, -FAR, FAR), 0)
            self.assertEqual(lengths(*question), ())
            self.assertEqual(barring(*question), self.greatest(question))
            self.assertIs(bars(*question, barring(*question)), True)

    def test_by_hand(self):
        self.assertEqual(barring(KEPT, 0, 7, 1), 7)
        self.assertIsNone(barring(KEPT, 0, 7, 0))
        self.assertEqual(barring((2, 0, 1, 0), 1, 20, 0), 2)
        self.assertEqual(barring((4, 1, 5, 0), 3, 7, 2), 7)
        self.assertIsNone(barring((2, 0, 1, 0), 0, 20, 0))


class Bars(unittest.TestCase):
    def test_each_number(self):
        for question in small_questions():
            for measure in range(1, ring(question) + 2):
                told = bars(*question, measure)
                self.assertIs(told, by_words.bars(*question, measure), (question, measure))

    def test_measures_less_than_the_greatest_may_bar(self):
        question = ((4, 0, 1, 0), 1, 4, 0)
        self.assertEqual([measure for measure in range(-9, 10) if bars(*question, measure)], [2, 4])
        self.assertEqual(barring(*question), 4)

    def test_of_anything(self):
        for question in [(KEPT, 0, 7, 1), (KEPT, 0, 7, 0), ((365, 8, 33, 5), 0, 7, 0)]:
            for thing in [*by_words.NO_WHOLE, *by_words.HUGE, 0, -1, -7, 1, 14, FAR, -FAR, KEPT, [7], (7,), "7"]:
                self.assertIs(bars(*question, thing), False, (question, thing))

    def test_a_number_below_0_never_bars(self):
        self.assertIs(bars(KEPT, 0, 7, 1, 7), True)
        self.assertIs(bars(KEPT, 0, 7, 1, -7), False)


class TheWhole(unittest.TestCase):
    """Promise [3], as far as it speaks of days of the week."""

    def test_weeks_named_on_change_nothing_but_themselves(self):
        for land, place, week, name in some_questions(6, 28):
            for later in (-3, 1, week, 13):
                if abs(land[3] + later * land[2]) > 10 ** 6:
                    continue
                moved = land[:3] + (land[3] + later * land[2],)
                one = (land, place, week, name)
                other = (moved, place, week, (name + later) % week)
                self.assertEqual(next_year(*one, -7), next_year(*other, -7))
                self.assertEqual(how_many(*one, -FAR, FAR), how_many(*other, -FAR, FAR))
                self.assertEqual(lengths(*one), lengths(*other))
                self.assertEqual(barring(*one), barring(*other))

    def test_each_year_has_one_day_of_the_week(self):
        for land in by_words.EDGE_LANDS:
            for week in (1, 20):
                many = [how_many(land, land[0] - 1, week, name, -FAR, FAR) for name in range(week)]
                self.assertEqual(sum(many), 2 * FAR)

    def test_the_same_question_has_the_same_answer(self):
        question = ((365, 1, 4, 0), 59, 7, 3)
        told = (next_year(*question, 7), how_many(*question, 7, 99), lengths(*question), barring(*question))
        lengths((354, 11, 30, 14), 0, 20, 19)
        again = (next_year(*question, 7), how_many(*question, 7, 99), lengths(*question), barring(*question))
        self.assertEqual(told, again)

    def test_things_handed_in_are_not_changed(self):
        thing = [7, [7], (7, [7])]
        self.assertIs(bars(KEPT, 0, 7, 1, thing), False)
        self.assertEqual(thing, [7, [7], (7, [7])])


class Refusals(unittest.TestCase):
    good = [by_words.GOOD_LAND, 364, 7, 6]
    wrongs = [
        (NoLand, by_words.NO_LAND), (NoPlace, by_words.no_place(by_words.GOOD_LAND)),
        (NoWeek, by_words.NO_WEEK), (NoName, by_words.no_name(7)),
    ]

    def test_of_lengths_and_barring(self):
        for function in (lengths, barring):
            by_words.check_refusals(self, function, self.good, self.wrongs)

    def test_of_bars_but_never_of_the_thing(self):
        for thing in (1, 7, None, "7", [7]):
            by_words.check_refusals(self, bars, [*self.good, thing], self.wrongs)

    def test_of_next_year(self):
        by_words.check_refusals(self, next_year, [*self.good, 2026],
                                [*self.wrongs, (NoYear, by_words.NO_YEAR)])

    def test_of_how_many(self):
        by_words.check_refusals(self, how_many, [*self.good, 7, 9],
                                [*self.wrongs, (NoYear, by_words.NO_YEAR),
                                 (NoYear, [*by_words.NO_YEAR, 6, -7, -FAR])])

    def test_last_less_than_first(self):
        for first, last in [(1, 0), (0, -1), (FAR, -FAR), (FAR, FAR - 1), (-FAR + 1, -FAR)]:
            self.assertIs(by_words.refusal(how_many, [*self.good, first, last]), NoYear)

    def test_what_never_comes_refuses_too(self):
        for year in by_words.NO_YEAR:
            self.assertIs(by_words.refusal(next_year, [KEPT, 0, 7, 1, year]), NoYear)
            self.assertIs(by_words.refusal(how_many, [KEPT, 0, 7, 1, year, 9]), NoYear)

    def test_a_place_that_only_long_years_have(self):
        self.assertIs(by_words.refusal(lengths, [(365, 1, 4, 0), 365, 7, 0]), NoPlace)
        self.assertIs(by_words.refusal(lengths, [(1, 0, 1, 0), 1, 7, 0]), NoPlace)

    def test_bounds_that_are_not_refused(self):
        for question in [((1, 0, 1, 10 ** 6), 0, 1, 0), ((400, 59, 60, -10 ** 6), 399, 20, 19)]:
            self.assertIsNone(by_words.refusal(lengths, question))
            for year in (-FAR, FAR):
                self.assertIsNone(by_words.refusal(next_year, [*question, year]))
                self.assertIsNone(by_words.refusal(how_many, [*question, year, year]))


if __name__ == "__main__":
    unittest.main()
