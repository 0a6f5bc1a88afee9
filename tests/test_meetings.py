"""Promises [1], [2], [3], [8] and [9]: days on which two lands have told places at once."""

import math
import random
import unittest

import by_words
from by_words import FAR, small_lands
from longyears.errors import NoDay, NoLand, NoPlace
from longyears.lands import date
from longyears.meetings import days, next_day, parting, parts

# Days of 400, bottom 60, shifts at their bounds; all come again together soon enough to go through it.
GREAT = [
    ((400, 59, 60, -10 ** 6), 0, (400, 59, 60, 10 ** 6), 399),
    ((400, 59, 60, 10 ** 6), 399, (392, 48, 60, -10 ** 6), 7),
    ((400, 0, 60, 10 ** 6), 20, (200, 0, 60, -10 ** 6), 87),
    ((400, 0, 60, 10 ** 6), 20, (200, 0, 60, -10 ** 6), 88),
    ((400, 0, 60, -10 ** 6), 66, (400, 0, 1, 10 ** 6), 399),
    ((400, 0, 60, -10 ** 6), 66, (400, 0, 1, 10 ** 6), 0),
    ((400, 59, 60, 10 ** 6), 13, (400, 59, 60, 10 ** 6), 13),
    ((400, 59, 60, 10 ** 6), 13, (400, 59, 60, 10 ** 6), 14),
    ((1, 0, 60, 10 ** 6), 0, (400, 0, 60, -10 ** 6), 399),
]


def step(land):
    return land[0] * land[2] + land[1]


def full_round(question):
    one, place_one, other, place_other = question
    return math.lcm(step(one), step(other))


def small_questions(count, seed):
    chance = random.Random(seed)
    lands = list(small_lands())
    for _ in range(count):
        one, other = chance.choice(lands), chance.choice(lands)
        yield one, chance.randrange(one[0]), other, chance.randrange(other[0])


def meetings(question, first, last):
    """The days from first on to ahead of last with both places, as the words give them."""
    one, place_one, other, place_other = question
    others = set(by_words.days_with(other, place_other, first, last))
    return [day for day in by_words.days_with(one, place_one, first, last) if day in others]


def left(land, place, number):
    """What all days with a place leave by a number that divides the step; they come again a step later."""
    return {day % number for day in by_words.days_with(land, place, 0, step(land))}


def parts_by_words(question, number):
    one, place_one, other, place_other = question
    if step(one) % number != 0 or step(other) % number != 0:
        return False
    return not left(one, place_one, number) & left(other, place_other, number)


def numbers_to_try(question):
    return range(1, min(step(question[0]), step(question[2])) + 2)


class DayByDay(unittest.TestCase):
    def test_the_first_from_each_day_on(self):
        for question in small_questions(200, 31):
            again = full_round(question)
            met = meetings(question, -again, 2 * again + 1)
            for day in range(-again, again + 1, 1 + again // 40):
                expected = next((later for later in met if later >= day), None)
                self.assertEqual(next_day(*question, day), expected, (question, day))
            for day in met:
                if day < again:
                    self.assertEqual(next_day(*question, day), day)

    def test_how_many_in_each_span(self):
        chance = random.Random(32)
        for question in small_questions(200, 32):
            again = full_round(question)
            met = meetings(question, -again, 2 * again + 1)
            spans = [sorted(chance.choices(range(-again, 2 * again + 1), k=2)) for _ in range(20)]
            for first, last in [*spans, (0, again), (-again, 2 * again), (0, 1), (-1, 0)]:
                expected = len([day for day in met if first <= day < last])
                self.assertEqual(days(*question, first, last), expected, (question, first, last))

    def test_first_is_counted_and_last_is_not(self):
        for question in small_questions(200, 33):
            day = next_day(*question, -5)
            if day is not None:
                self.assertEqual([days(*question, day, day + 1), days(*question, day + 1, day + 1)], [1, 0])
                self.assertEqual(days(*question, -5, day), 0)

    def test_days_told_have_both_dates(self):
        for one, place_one, other, place_other in small_questions(200, 34):
            day = next_day(one, place_one, other, place_other, -7)
            if day is not None:
                self.assertEqual((date(one, day)[1], date(other, day)[1]), (place_one, place_other))

    def test_by_hand(self):
        # Years of 2 and of 3 days meet each sixth day; years of 365 and of 365 and a quarter, later.
        self.assertEqual(next_day((2, 0, 1, 0), 0, (3, 0, 1, 0), 0, 1), 6)
        self.assertEqual(next_day((2, 0, 1, 0), 1, (3, 0, 1, 0), 0, 0), 3)
        self.assertEqual(next_day((365, 0, 1, 0), 0, (365, 1, 4, 0), 0, 1), 365)
        self.assertEqual(next_day((365, 0, 1, 0), 0, (365, 1, 4, 0), 0, 1096), 365 * 1461)
        self.assertEqual(days((2, 0, 1, 0), 0, (3, 0, 1, 0), 0, -FAR, FAR), 2 * (FAR // 6) + 1)
        self.assertEqual(days((1, 0, 1, 0), 0, (1, 0, 60, 0), 0, -FAR, FAR), 2 * FAR)
        self.assertIsNone(next_day((2, 0, 1, 0), 0, (4, 0, 1, 0), 1, 0))
        self.assertEqual(days((2, 0, 1, 0), 0, (4, 0, 1, 0), 1, -FAR, FAR), 0)


class HoweverFar(unittest.TestCase):
    def test_small_lands(self):
        for question in small_questions(40, 35):
            again = full_round(question)
            for day in (-FAR, FAR):
                met = meetings(question, day, day + again)
                self.assertEqual(next_day(*question, day), met[0] if met else None, (question, day))
            whole, rest = divmod(2 * FAR, again)
            met = meetings(question, -FAR, -FAR + again)
            expected = whole * len(met) + len([day for day in met if day < -FAR + rest])
            self.assertEqual(days(*question, -FAR, FAR), expected, question)

    def test_great_lands(self):
        meeting = 0
        for question in GREAT:
            again = full_round(question)
            for day in (-FAR, 0, FAR - again):
                met = meetings(question, day, day + again)
                self.assertEqual(next_day(*question, day), met[0] if met else None, (question, day))
                self.assertEqual(days(*question, day, day + again), len(met), question)
            beyond = None if not met else met[0] + again
            self.assertEqual(next_day(*question, FAR), beyond, question)
            self.assertEqual(parting(*question) is None, len(met) > 0, question)
            meeting += len(met) > 0
        self.assertTrue(0 < meeting < len(GREAT))

    def test_great_lands_that_come_again_late(self):
        # Both steps share no measure: each pair of days out of bottom years of each meets once in a round.
        question = ((400, 59, 60, -10 ** 6), 399, (399, 58, 59, 10 ** 6), 0)
        again = full_round(question)
        self.assertEqual(math.gcd(24059, 23599), 1)
        for day in (-FAR, FAR):
            told = next_day(*question, day)
            self.assertTrue(day <= told < day + again)
            self.assertEqual(by_words.date(question[0], told)[1], 399)
            self.assertEqual(by_words.date(question[2], told)[1], 0)
            self.assertEqual(meetings(question, day, told), [])
        self.assertEqual(days(*question, 0, again), 60 * 59)
        self.assertEqual(days(*question, -FAR, -FAR + 7 * again), 7 * 60 * 59)
        self.assertEqual(days(*question, -FAR, next_day(*question, -FAR) + 1), 1)

    def test_spans_of_no_day(self):
        for question in [*GREAT, *small_questions(20, 36)]:
            for day in (-FAR, -1, 0, FAR):
                self.assertEqual(days(*question, day, day), 0)

    def test_what_is_told_may_lie_beyond(self):
        question = ((400, 0, 1, 0), 1, (400, 0, 1, 0), 1)
        self.assertEqual(FAR % 400, 0)
        self.assertEqual(next_day(*question, FAR), FAR + 1)


class Parting(unittest.TestCase):
    def test_the_greatest_number_that_parts(self):
        parted = 0
        for question in small_questions(200, 37):
            found = [number for number in numbers_to_try(question) if parts_by_words(question, number)]
            self.assertEqual(parting(*question), max(found, default=None), question)
            parted += len(found) > 0
        self.assertTrue(0 < parted < 200)

    def test_just_where_no_day_has_both(self):
        for question in small_questions(150, 38):
            none = not meetings(question, 0, full_round(question))
            self.assertIs(parting(*question) is not None, none, question)

    def test_what_never_meets(self):
        for question, number in [
            (((2, 0, 1, 0), 0, (4, 0, 1, 0), 1), 2),
            (((364, 0, 1, 0), 3, (7, 0, 1, 0), 4), 7),
            (((400, 0, 60, 10 ** 6), 20, (200, 0, 60, -10 ** 6), 88), 12000),
            (((400, 59, 60, 10 ** 6), 13, (400, 59, 60, 10 ** 6), 14), 24059),
        ]:
            for day in (-FAR, -1, 0, FAR):
                self.assertIsNone(next_day(*question, day))
            self.assertEqual(days(*question, -FAR, FAR), 0)
            self.assertEqual(parting(*question), number)
            self.assertIs(parts(*question, number), True)
            self.assertIs(parts(*question, -number), False)
            self.assertIs(parts(*question, 2 * number), False)

    def test_what_meets_is_parted_by_none(self):
        question = ((365, 8, 33, 5), 364, (354, 11, 30, 14), 0)
        self.assertIsNone(parting(*question))
        self.assertEqual([number for number in range(-99, 20000) if parts(*question, number)], [])


class Parts(unittest.TestCase):
    def test_each_number(self):
        found = 0
        for question in small_questions(150, 39):
            for number in numbers_to_try(question):
                told = parts(*question, number)
                self.assertIs(told, parts_by_words(question, number), (question, number))
                found += told
        self.assertGreater(found, 0)

    def test_numbers_less_than_the_greatest_may_part(self):
        question = ((4, 0, 1, 0), 1, (8, 0, 1, 0), 2)
        self.assertEqual([number for number in range(-9, 10) if parts(*question, number)], [2, 4])
        self.assertEqual(parting(*question), 4)

    def test_a_number_must_divide_both_steps(self):
        question = ((4, 0, 1, 0), 0, (6, 0, 1, 0), 1)
        self.assertEqual([number for number in range(1, 30) if parts(*question, number)], [2])

    def test_of_anything(self):
        parted = ((364, 0, 1, 0), 3, (7, 0, 1, 0), 4)
        met = ((364, 0, 1, 0), 3, (7, 0, 1, 0), 3)
        wrong = [0, -1, -7, 1, 2, 14, 364, FAR, -FAR, [7], (7,), "7", parted[0]]
        for question in (parted, met):
            for thing in [*by_words.NO_WHOLE, *by_words.HUGE, *wrong]:
                self.assertIs(parts(*question, thing), False, (question, thing))
        self.assertIs(parts(*parted, 7), True)
        self.assertIs(parts(*met, 7), False)

    def test_a_truth_is_no_number(self):
        # 1 itself never parts, so a truth cannot be told from it by its answer; it is still no error.
        for question in GREAT:
            self.assertIs(parts(*question, True), False)
            self.assertIs(parts(*question, 1), False)


class TheWhole(unittest.TestCase):
    """Promise [3], as far as it speaks of meetings."""

    def moved(self, question, later):
        one, place_one, other, place_other = question
        return (one[:3] + (one[3] + later * one[2],), place_one, other[:3] + (other[3] + later * other[2],), place_other)

    def test_all_days_so_many_later_change_nothing_but_themselves(self):
        known = ((365, 8, 33, 5), 364, (354, 11, 30, 14), 0)
        for question in [known, *small_questions(30, 40)]:
            for later in (-30000, -1, 1, 7, 30000):
                moved = self.moved(question, later)
                told = next_day(*question, -7)
                self.assertEqual(next_day(*moved, later - 7), None if told is None else told + later)
                self.assertEqual(days(*moved, later - 99, later + 12345), days(*question, -99, 12345))
                self.assertEqual(parting(*moved), parting(*question))
                for number in (1, 2, 3, 6, 7):
                    self.assertIs(parts(*moved, number), parts(*question, number))

    def test_which_land_is_asked_first_changes_nothing(self):
        for one, place_one, other, place_other in [*GREAT, *small_questions(60, 41)]:
            question, turned = (one, place_one, other, place_other), (other, place_other, one, place_one)
            self.assertEqual(next_day(*question, 5), next_day(*turned, 5))
            self.assertEqual(days(*question, -FAR, FAR), days(*turned, -FAR, FAR))
            self.assertEqual(parting(*question), parting(*turned))

    def test_a_land_with_itself(self):
        for land in by_words.all_lands(20, 42):
            place = land[0] - 1
            for day in (-FAR, 0, FAR):
                told = next_day(land, place, land, place, day)
                self.assertEqual(told, by_words.days_with(land, place, day, day + 2 * land[0] + 2)[0])
            self.assertEqual(days(land, place, land, place, 0, step(land)), land[2])
            self.assertIsNone(parting(land, place, land, place))

    def test_the_same_question_has_the_same_answer(self):
        question = ((365, 8, 33, 5), 364, (354, 11, 30, 14), 0)
        told = (next_day(*question, 7), days(*question, 7, FAR), parting(*question))
        for other in GREAT:
            parting(*other)
        self.assertEqual((next_day(*question, 7), days(*question, 7, FAR), parting(*question)), told)

    def test_things_handed_in_are_not_changed(self):
        thing = [7, [7], (7, [7])]
        self.assertIs(parts(*GREAT[0], thing), False)
        self.assertEqual(thing, [7, [7], (7, [7])])


class Refusals(unittest.TestCase):
    # One land's places are not all the other's, so that each place is held against its own land.
    one, other = by_words.GOOD_LAND, (12, 1, 5, 3)
    good = [one, 364, other, 11]
    wrongs = [
        (NoLand, by_words.NO_LAND), (NoPlace, by_words.no_place(one)),
        (NoLand, by_words.NO_LAND), (NoPlace, [*by_words.no_place(other), 364]),
    ]

    def test_of_parting(self):
        by_words.check_refusals(self, parting, self.good, self.wrongs)

    def test_of_parts_but_never_of_the_thing(self):
        for thing in (1, None, "7", [7]):
            by_words.check_refusals(self, parts, [*self.good, thing], self.wrongs)

    def test_of_next_day(self):
        by_words.check_refusals(self, next_day, [*self.good, 7], [*self.wrongs, (NoDay, by_words.NO_DAY)])

    def test_of_days(self):
        by_words.check_refusals(self, days, [*self.good, 7, 9],
                                [*self.wrongs, (NoDay, by_words.NO_DAY),
                                 (NoDay, [*by_words.NO_DAY, 6, -7, -FAR])])

    def test_last_less_than_first(self):
        for first, last in [(1, 0), (0, -1), (FAR, -FAR), (FAR, FAR - 1), (-FAR + 1, -FAR)]:
            self.assertIs(by_words.refusal(days, [*self.good, first, last]), NoDay)

    def test_the_place_of_the_one_land_goes_ahead_of_the_other_land(self):
        self.assertIs(by_words.refusal(next_day, [self.one, 365, None, 12, None]), NoPlace)
        self.assertIs(by_words.refusal(next_day, [None, 365, None, 12, None]), NoLand)
        self.assertIs(by_words.refusal(next_day, [self.one, 364, None, 12, None]), NoLand)
        self.assertIs(by_words.refusal(next_day, [self.other, 12, self.one, 12, 0]), NoPlace)
        self.assertIsNone(by_words.refusal(next_day, [self.other, 11, self.one, 12, 0]))

    def test_what_never_meets_refuses_too(self):
        for day in by_words.NO_DAY:
            question = ((2, 0, 1, 0), 0, (4, 0, 1, 0), 1)
            self.assertIs(by_words.refusal(next_day, [*question, day]), NoDay)
            self.assertIs(by_words.refusal(days, [*question, day, 9]), NoDay)
            self.assertIs(by_words.refusal(days, [*question, 9, day]), NoDay)

    def test_bounds_that_are_not_refused(self):
        for question in GREAT:
            self.assertIsNone(by_words.refusal(parting, question))
            for day in (-FAR, FAR):
                self.assertIsNone(by_words.refusal(next_day, [*question, day]))
                self.assertIsNone(by_words.refusal(days, [*question, day, day]))


if __name__ == "__main__":
    unittest.main()
