"""Promise [8] over many pairs of lands, days gone through one by one; and how long questions of great lands take."""

import itertools
import math
import random
import time
import unittest

import by_words
from by_words import FAR
from longyears.meetings import days, next_day, parting

# Bottom 60, and steps that no number above 1 divides both: with these all pairs of days meet.
FIRST, SECOND, THIRD = (400, 59, 60, 0), (399, 59, 60, 0), (400, 58, 60, 0)


def step(land):
    return land[0] * land[2] + land[1]


def shared_step(one, other):
    return math.gcd(step(one), step(other))


def some_land(chance, most_days):
    bottom = chance.choice((1, 2, 59, 60, chance.randint(1, 60)))
    top = chance.choice((0, bottom - 1, chance.randrange(bottom)))
    shift = chance.choice((0, -10 ** 6, 10 ** 6, chance.randint(-10 ** 6, 10 ** 6)))
    return (chance.randint(1, most_days), top, bottom, shift)


def some_pairs(count, most_days, seed):
    """Pairs of lands: as many each without a common measure of the steps, with one, and with the same step."""
    chance = random.Random(seed)
    for kind in ("none", "some", "same"):
        found = 0
        while found < count:
            one, other = some_land(chance, most_days), some_land(chance, most_days)
            if kind == "same":
                other = one[:3] + (other[3],)
            shared = shared_step(one, other)
            if kind == "same" or (shared == 1) == (kind == "none"):
                found += 1
                yield one, other


def both_ends(land):
    return sorted({0, land[0] - 1})


class OneByOne(unittest.TestCase):
    """next_day and days against the days of a span, gone through one by one."""

    def check_span(self, one, other, first, last):
        """How many of the questions, places at both ends of the years, have a day in the span."""
        pairs = list(zip(by_words.places(one, first, last), by_words.places(other, first, last)))
        with_days = 0
        for place_one, place_other in itertools.product(both_ends(one), both_ends(other)):
            met = [first + at for at, pair in enumerate(pairs) if pair == (place_one, place_other)]
            question = (one, place_one, other, place_other)
            self.check_next(question, met, first, last)
            self.check_count(question, met, first, last)
            with_days += len(met) > 0
        return with_days

    def check_next(self, question, met, first, last):
        asked = [*range(first, last, 1 + (last - first) // 7), *met[:3], *[day + 1 for day in met[:3]], *met[-1:]]
        again = math.lcm(step(question[0]), step(question[2]))
        for day in asked:
            told = next_day(*question, day)
            expected = next((later for later in met if later >= day), None)
            if expected is None and told is not None:
                # There may be one behind the span, but for a whole round that was gone through.
                self.assertGreaterEqual(told, last, (question, day))
                self.assertTrue(met or last - first < again, (question, day))
                self.assertLess(told, day + again, (question, day))
            else:
                self.assertEqual(told, expected, (question, day))

    def check_count(self, question, met, first, last):
        third = (last - first) // 3
        spans = [(first, last), (first, first), (first + third, last - third), (first + 1, last - third)]
        for day in met[:2]:
            spans += [(first, day), (first, day + 1), (day, last), (day + 1, last)]
        for start, end in spans:
            expected = len([day for day in met if start <= day < end])
            self.assertEqual(days(*question, start, end), expected, (question, start, end))

    def check_pairs(self, pairs, firsts, span):
        with_days = asked = 0
        for one, other in pairs:
            for first in firsts:
                with_days += self.check_span(one, other, first, first + span)
                asked += len(both_ends(one)) * len(both_ends(other))
        self.assertTrue(0 < with_days < asked)

    def test_short_years_near(self):
        self.check_pairs(some_pairs(40, 12, 51), (-1500, 0), 1500)

    def test_short_years_far(self):
        self.check_pairs(some_pairs(15, 12, 52), (-FAR, -10 ** 18 - 3, 10 ** 9 + 7, FAR - 1500), 1500)

    def test_years_of_a_day_or_two(self):
        self.check_pairs(some_pairs(25, 2, 53), (-FAR, -700, 0, FAR - 700), 700)

    def test_long_years(self):
        self.check_pairs(some_pairs(2, 400, 54), (-FAR, -30000, FAR - 60000), 60000)

    def test_great_lands(self):
        pairs = [(FIRST, SECOND), (FIRST, THIRD), ((400, 30, 60, -10 ** 6), (399, 30, 60, 10 ** 6))]
        self.assertEqual([shared_step(*pair) for pair in pairs], [1, 1, 30])
        self.check_pairs(pairs, (-FAR, -90000, FAR - 180000), 180000)

    def test_none_where_the_whole_round_has_none(self):
        none = 0
        for one, other in some_pairs(40, 6, 55):
            again = math.lcm(step(one), step(other))
            if again > 3000:
                continue
            pairs = list(zip(by_words.places(one, 0, again), by_words.places(other, 0, again)))
            for places in itertools.product(both_ends(one), both_ends(other)):
                question = (one, places[0], other, places[1])
                for day in (-FAR, -1, 0, 5, FAR):
                    self.assertIs(next_day(*question, day) is None, places not in pairs, question)
                self.assertEqual(days(*question, -FAR, again - FAR), pairs.count(places), question)
                self.assertEqual(days(*question, -FAR, 9 * again - FAR), 9 * pairs.count(places), question)
                self.assertIs(parting(*question) is None, places in pairs, question)
                none += places not in pairs
        self.assertGreater(none, 0)


class ThousandQuestions(unittest.TestCase):
    """The same two great lands asked from day 0, 1, 2 and so on up to 999."""

    def check_next(self, one, other, last_answer):
        pairs = list(zip(by_words.places(one, 0, last_answer + 1), by_words.places(other, 0, last_answer + 1)))
        met = [day for day, pair in enumerate(pairs) if pair == (0, 0)]
        self.assertEqual(met[-1], last_answer)
        for day in range(1000):
            expected = next(later for later in met if later >= day)
            self.assertEqual(next_day(one, 0, other, 0, day), expected)
        self.assertEqual(next_day(one, 0, other, 0, 999), last_answer)

    def test_the_next_day(self):
        self.check_next(FIRST, SECOND, 160393)
        self.check_next(FIRST, THIRD, 1202)

    def test_how_many(self):
        # Day 0 is the only one of the thousand that begins a year in both.
        self.assertEqual(days(FIRST, 0, SECOND, 0, 0, 10 ** 26), 623493288417754344778)
        for day in range(1, 1000):
            self.assertEqual(days(FIRST, 0, SECOND, 0, day, 10 ** 26), 623493288417754344777, day)

    def test_how_many_in_a_round(self):
        again = step(FIRST) * step(SECOND)
        for first in (-FAR, -1, 0, 1, FAR - 3 * again):
            for rounds in (1, 2, 3):
                self.assertEqual(days(FIRST, 0, SECOND, 0, first, first + rounds * again), rounds * 3600)


def in_pairs(one, place_one, other, place_other):
    """All days with both places in a round, each pair of days gone through: what a question need not do."""
    shared = shared_step(one, other)
    steps = step(other) // shared
    factor = pow(step(one) // shared, -1, steps)
    placed = [
        [(step(land) * year + land[3]) // land[2] + place for year in range(land[2])]
        for land, place in ((one, place_one), (other, place_other))
    ]
    return [
        day + (later - day) // shared * factor % steps * step(one)
        for day in placed[0]
        for later in placed[1]
        if (later - day) % shared == 0
    ]


def least_time(function, *arguments):
    """The least of several times, so that what else the machine does hardly counts."""
    taken = []
    for _ in range(15):
        start = time.perf_counter()
        function(*arguments)
        taken.append(time.perf_counter() - start)
    return min(taken)


class TimeTaken(unittest.TestCase):
    def test_less_than_going_through_all_pairs_of_days(self):
        for question in [
            (FIRST, 0, SECOND, 0),
            (FIRST, 0, THIRD, 399),
            (FIRST, 0, FIRST, 5),
            ((400, 0, 60, 7), 399, (200, 0, 60, -10 ** 6), 0),
            ((400, 30, 60, -10 ** 6), 0, (399, 30, 60, 10 ** 6), 398),
        ]:
            bound = least_time(in_pairs, *question)
            for day in (-FAR, 0, 999, FAR):
                self.assertLess(least_time(next_day, *question, day), bound, (question, day))
                self.assertLess(least_time(days, *question, -FAR, day), bound, (question, day))


if __name__ == "__main__":
    unittest.main()
