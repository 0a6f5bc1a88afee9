"""Promises [1], [2], [3] and [12]: a realm that changes its calendar."""

import copy
import random
import unittest

import by_words
from by_words import FAR, small_lands
from longyears.errors import NoDay, NoLand, NoPlace, NothingLeft, NoYear
from longyears.realms import Realm

OLD = (365, 1, 4, 0)
NEW = (365, 8, 33, 5)
WRONG_PLACES = [*by_words.NO_WHOLE, *by_words.HUGE, -1, 401]


def realm_of(land, *changes):
    realm = Realm(land)
    for day, other in changes:
        realm.change(day, other)
    return realm


def land_on(pairs, day):
    """The land of a day, from the pairs that were handed in."""
    return [land for start, land in pairs if start is None or start <= day][-1]


def date_on(pairs, day):
    return by_words.date(land_on(pairs, day), day)


def whole_state(realm):
    """All that is told of a realm, but for days that are not near."""
    dates = [realm.date(day) for day in (-FAR, -400, -1, 0, 1, 24, 25, 26, 400, FAR)]
    days = [realm.days_of(year, place) for year in (-1, 0, 1, 2) for place in (0, 5, 400)]
    return realm.lands(), len(realm), dates, days


def some_realms(count, seed):
    """Realms of small lands, each with its pairs, changes at most a few years apart."""
    chance = random.Random(seed)
    lands = list(small_lands())
    for _ in range(count):
        pairs = [(None, chance.choice(lands))]
        day = chance.randint(-40, 0)
        for _ in range(chance.randint(0, 5)):
            pairs.append((day, chance.choice(lands)))
            day += chance.randint(1, 20)
        yield realm_of(pairs[0][1], *pairs[1:]), pairs


class Dates(unittest.TestCase):
    def test_by_the_land_of_each_day(self):
        for realm, pairs in some_realms(120, 61):
            for day in range(-50, 70):
                self.assertEqual(realm.date(day), date_on(pairs, day), (pairs, day))

    def test_however_far(self):
        for land in by_words.all_lands(15, 62):
            realm = realm_of(land, (-FAR, NEW), (0, OLD), (FAR, land))
            pairs = [(None, land), (-FAR, NEW), (0, OLD), (FAR, land)]
            for day in (-FAR, -FAR + 1, -1, 0, 1, FAR - 1, FAR):
                self.assertEqual(realm.date(day), date_on(pairs, day), (land, day))

    def test_without_changes(self):
        for land in by_words.all_lands(15, 63):
            realm = Realm(land)
            for day in (-FAR, -1, 0, 1, 2026, FAR):
                self.assertEqual(realm.date(day), by_words.date(land, day))

    def test_from_the_day_on_and_not_ahead_of_it(self):
        realm = realm_of((10, 0, 1, 0), (25, (10, 0, 1, 10)))
        self.assertEqual([realm.date(day) for day in (23, 24, 25, 26)], [(2, 3), (2, 4), (1, 5), (1, 6)])
        self.assertIsInstance(realm.date(25), tuple)

    def test_with_many_changes(self):
        pairs = [(None, OLD)] + [(3 * k, (7, k % 5, 6, k)) for k in range(-150, 150)]
        realm = realm_of(OLD, *pairs[1:])
        self.assertEqual(len(realm), 301)
        for day in range(-460, 460):
            self.assertEqual(realm.date(day), date_on(pairs, day))


class DaysOf(unittest.TestCase):
    def test_all_days_that_have_a_date(self):
        empty = several = 0
        for realm, pairs in some_realms(80, 64):
            # Years of these lands have from 1 to 7 days, so the years asked lie well within these days.
            dates = {}
            for day in range(-150, 150):
                dates.setdefault(date_on(pairs, day), []).append(day)
            for year in range(-8, 9):
                for place in range(8):
                    expected = dates.get((year, place), [])
                    self.assertEqual(realm.days_of(year, place), expected, (pairs, year, place))
                    empty += not expected
                    several += len(expected) > 1
        self.assertGreater(empty, 0)
        self.assertGreater(several, 0)

    def test_dates_that_several_days_have(self):
        realm = realm_of((10, 0, 1, 0), (25, (10, 0, 1, 10)), (36, (10, 0, 1, 20)))
        self.assertEqual(realm.days_of(1, 5), [15, 25])
        self.assertEqual(realm.days_of(1, 6), [16, 26, 36])
        self.assertEqual(realm.days_of(1, 9), [19, 29, 39])
        self.assertEqual(realm.days_of(2, 4), [24, 34, 44])
        self.assertEqual(realm.days_of(2, 5), [35, 45])
        self.assertEqual(realm.days_of(2, 6), [46])

    def test_dates_that_no_day_has(self):
        realm = realm_of((10, 0, 1, 0), (25, (10, 0, 1, -10)))
        self.assertEqual(realm.date(24), (2, 4))
        self.assertEqual(realm.date(25), (3, 5))
        self.assertEqual(realm.days_of(2, 5), [])
        self.assertEqual(realm.days_of(3, 4), [])
        self.assertEqual(realm.days_of(2, 4), [24])
        self.assertEqual(realm.days_of(3, 5), [25])

    def test_place_400(self):
        realm = Realm((400, 1, 2, 0))
        self.assertEqual(realm.days_of(0, 400), [])
        self.assertEqual(realm.days_of(1, 400), [800])
        self.assertEqual(realm.date(800), (1, 400))
        self.assertEqual(Realm((399, 1, 2, 0)).days_of(1, 400), [])
        self.assertEqual(Realm((1, 0, 1, 0)).days_of(1, 400), [])

    def test_a_place_that_only_long_years_have(self):
        self.assertEqual([Realm(OLD).days_of(year, 365) for year in range(4)], [[], [], [], [1460]])
        self.assertEqual(Realm(OLD).days_of(3, 366), [])

    def test_place_0(self):
        for land in by_words.all_lands(15, 65):
            for year in (-FAR, -1, 0, FAR):
                self.assertEqual(Realm(land).days_of(year, 0), [by_words.begin(land, year)])

    def test_days_may_lie_beyond(self):
        realm = realm_of((400, 0, 1, 0), (-FAR, (399, 0, 1, 0)), (FAR, (398, 0, 1, 0)))
        self.assertEqual(realm.days_of(-FAR, 397), [397 - 400 * FAR])
        self.assertEqual(realm.days_of(FAR, 397), [398 * FAR + 397])
        self.assertEqual(realm.days_of(FAR, 398), [])
        self.assertEqual(realm.days_of(7, 398), [7 * 399 + 398])

    def test_the_day_of_a_change(self):
        realm = realm_of(OLD, (1461, NEW))
        self.assertEqual(realm.days_of(*realm.date(1461)), [1461])
        self.assertEqual(realm.days_of(*realm.date(1460)), [1460])
        same = realm_of(OLD, (1461, OLD))
        self.assertEqual(same.days_of(4, 0), [1461])
        self.assertEqual(same.days_of(3, 365), [1460])

    def test_each_day_is_among_those_with_its_date(self):
        for realm, pairs in some_realms(60, 66):
            for day in range(-50, 70):
                self.assertIn(day, realm.days_of(*realm.date(day)))


class Changes(unittest.TestCase):
    def test_lands_and_length(self):
        realm = Realm(OLD)
        self.assertEqual((realm.lands(), len(realm)), ([(None, OLD)], 1))
        self.assertIsNone(realm.change(-5, NEW))
        self.assertIsNone(realm.change(-4, NEW))
        self.assertEqual((realm.lands(), len(realm)), ([(None, OLD), (-5, NEW), (-4, NEW)], 3))
        self.assertIsNone(realm.back())
        self.assertEqual((realm.lands(), len(realm)), ([(None, OLD), (-5, NEW)], 2))
        self.assertIsNone(realm.back())
        self.assertEqual((realm.lands(), len(realm)), ([(None, OLD)], 1))

    def test_kinds_of_what_is_told(self):
        realm = realm_of(OLD, (7, NEW))
        self.assertIsInstance(realm.lands(), list)
        for pair in realm.lands():
            self.assertIsInstance(pair, tuple)
            self.assertIsInstance(pair[1], tuple)
        self.assertIsInstance(realm.days_of(0, 0), list)

    def test_changes_taken_back_leave_no_trace(self):
        for realm, pairs in some_realms(40, 67):
            ahead = whole_state(realm)
            realm.change(FAR, (1, 0, 1, 0))
            self.assertEqual(realm.date(FAR), (FAR, 0))
            realm.back()
            self.assertEqual(whole_state(realm), ahead)

    def test_behind_a_change_taken_back_its_day_is_free(self):
        realm = realm_of(OLD, (5, NEW), (9, OLD))
        realm.back()
        realm.change(6, OLD)
        self.assertEqual(realm.lands(), [(None, OLD), (5, NEW), (6, OLD)])
        realm.back()
        realm.back()
        realm.change(-FAR, NEW)
        self.assertEqual(realm.lands(), [(None, OLD), (-FAR, NEW)])

    def test_changes_of_chance(self):
        chance = random.Random(68)
        lands = list(small_lands())
        for _ in range(30):
            pairs = [(None, chance.choice(lands))]
            realm = Realm(pairs[0][1])
            for _ in range(40):
                self.change_by_chance(realm, pairs, chance, lands)
                self.assertEqual(realm.lands(), pairs)
                self.assertEqual(len(realm), len(pairs))
                day = chance.randint(-60, 60)
                self.assertEqual(realm.date(day), date_on(pairs, day))

    def change_by_chance(self, realm, pairs, chance, lands):
        if chance.random() < 0.4:
            refused = by_words.refusal(realm.back, [])
            self.assertIs(refused, NothingLeft if len(pairs) == 1 else None)
            if len(pairs) > 1:
                pairs.pop()
            return
        day, land = chance.randint(-50, 50), chance.choice(lands)
        late = pairs[-1][0] is None or pairs[-1][0] < day
        self.assertIs(by_words.refusal(realm.change, [day, land]), None if late else NoDay)
        if late:
            pairs.append((day, land))


class Equal(unittest.TestCase):
    def test_where_the_lists_are(self):
        realms = [Realm(OLD), Realm(NEW), realm_of(OLD, (5, NEW)), realm_of(OLD, (6, NEW)), realm_of(OLD, (5, OLD)),
                  realm_of(OLD, (5, NEW), (6, OLD)), realm_of(NEW, (5, NEW))]
        for at, one in enumerate(realms):
            for place, other in enumerate(realms):
                self.assertIs(one == other, at == place)
                self.assertIs(one != other, at != place)
            twin = realm_of(one.lands()[0][1], *one.lands()[1:])
            self.assertIs(one == twin, True)
            self.assertIs(one != twin, False)

    def test_lands_alike_are_not_the_same(self):
        self.assertIs(Realm((365, 1, 4, 0)) == Realm((365, 2, 8, 0)), False)

    def test_behind_a_change_taken_back(self):
        realm = realm_of(OLD, (5, NEW))
        self.assertIs(realm == Realm(OLD), False)
        realm.back()
        self.assertIs(realm == Realm(OLD), True)

    def test_nothing_else_equals_one(self):
        realm = Realm(OLD)
        things = [*by_words.NO_LAND, *by_words.HUGE, OLD, 1, realm.lands(), tuple(realm.lands()), [realm], (None, OLD)]
        for thing in things:
            self.assertIs(realm == thing, False, thing)
            self.assertIs(thing == realm, False, thing)
            self.assertIs(realm != thing, True, thing)


class TheWhole(unittest.TestCase):
    """Promises [2] and [3], as far as they speak of realms."""

    def test_all_days_so_many_later_change_nothing_but_themselves(self):
        for realm, pairs in some_realms(40, 69):
            for later in (-20000, -1, 1, 7, 20000):
                moved = [(None if day is None else day + later, land[:3] + (land[3] + later * land[2],))
                         for day, land in pairs]
                other = realm_of(moved[0][1], *moved[1:])
                for day in (-FAR // 2, -30, -1, 0, 1, 30, FAR // 2):
                    self.assertEqual(other.date(day + later), realm.date(day))
                for year in range(-5, 6):
                    for place in (0, 2):
                        self.assertEqual(other.days_of(year, place), [day + later for day in realm.days_of(year, place)])

    def test_lists_told_are_the_askers_own(self):
        realm = realm_of(OLD, (5, NEW))
        told = realm.lands()
        told.append((7, OLD))
        told[0] = (None, NEW)
        self.assertEqual(realm.lands(), [(None, OLD), (5, NEW)])
        self.assertIsNot(realm.lands(), realm.lands())
        days = realm.days_of(0, 0)
        days.clear()
        self.assertEqual(realm.days_of(0, 0), [0])
        ahead = realm.lands()
        realm.back()
        self.assertEqual(ahead, [(None, OLD), (5, NEW)])

    def test_realms_share_nothing(self):
        one, other = Realm(OLD), Realm(OLD)
        one.change(5, NEW)
        self.assertEqual(other.lands(), [(None, OLD)])
        self.assertIs(by_words.refusal(other.back, []), NothingLeft)

    def test_the_same_question_has_the_same_answer(self):
        realm = realm_of(OLD, (5, NEW), (99, (7, 1, 3, 2)))
        told = whole_state(realm)
        Realm(NEW).days_of(3, 3)
        self.assertEqual(whole_state(realm), told)


class Refusals(unittest.TestCase):
    def setUp(self):
        self.realm = realm_of(OLD, (5, NEW), (9, (12, 1, 5, 3)))
        self.ahead = copy.deepcopy(whole_state(self.realm))

    def tearDown(self):
        self.assertEqual(whole_state(self.realm), self.ahead)
        self.assertIs(self.realm == realm_of(OLD, (5, NEW), (9, (12, 1, 5, 3))), True)

    def test_of_a_realm(self):
        by_words.check_refusals(self, Realm, [OLD], [(NoLand, by_words.NO_LAND)])

    def test_of_a_change(self):
        not_later = [9, 8, 5, 4, 0, -1, -FAR]
        by_words.check_refusals(self, self.realm.change, [10, NEW],
                                [(NoDay, [*by_words.NO_DAY, *not_later]), (NoLand, by_words.NO_LAND)])

    def test_a_day_that_is_not_later_goes_ahead_of_no_land(self):
        self.assertIs(by_words.refusal(self.realm.change, [9, None]), NoDay)
        self.assertIs(by_words.refusal(self.realm.change, [10, None]), NoLand)
        self.assertIs(by_words.refusal(self.realm.change, [FAR + 1, None]), NoDay)

    def test_of_a_change_behind_the_first_land(self):
        realm = Realm(OLD)
        for day in by_words.NO_DAY:
            self.assertIs(by_words.refusal(realm.change, [day, NEW]), NoDay)
        self.assertEqual(realm.lands(), [(None, OLD)])
        self.assertIsNone(by_words.refusal(realm.change, [-FAR, NEW]))
        self.assertIs(by_words.refusal(realm.change, [-FAR, NEW]), NoDay)
        self.assertIsNone(by_words.refusal(realm.change, [FAR, OLD]))
        self.assertIs(by_words.refusal(realm.change, [FAR + 1, OLD]), NoDay)
        self.assertEqual(realm.lands(), [(None, OLD), (-FAR, NEW), (FAR, OLD)])

    def test_nothing_left(self):
        realm = Realm(OLD)
        for _ in range(3):
            self.assertIs(by_words.refusal(realm.back, []), NothingLeft)
        self.assertIs(realm == Realm(OLD), True)
        realm.change(5, NEW)
        realm.back()
        self.assertIs(by_words.refusal(realm.back, []), NothingLeft)
        self.assertIs(realm == Realm(OLD), True)

    def test_of_a_date(self):
        by_words.check_refusals(self, self.realm.date, [7], [(NoDay, by_words.NO_DAY)])

    def test_of_days(self):
        by_words.check_refusals(self, self.realm.days_of, [7, 7],
                                [(NoYear, by_words.NO_YEAR), (NoPlace, WRONG_PLACES)])

    def test_bounds_that_are_not_refused(self):
        for number in (-FAR, FAR):
            self.assertIsNone(by_words.refusal(self.realm.date, [number]))
            for place in (0, 400):
                self.assertIsNone(by_words.refusal(self.realm.days_of, [number, place]))


if __name__ == "__main__":
    unittest.main()
