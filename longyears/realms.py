"""Realms, which go on as they change their calendars."""

from longyears.errors import NoDay, NoPlace, NothingLeft
from longyears.lands import MOST_DAYS, date_of, first_day, need_day, need_land, need_year
from longyears.whole import is_between


def need_realm_place(thing):
    """Refuse what is no place that a year of any land may have."""
    # Long years of the longest lands have a place more than MOST_DAYS - 1.
    if not is_between(thing, 0, MOST_DAYS):
        raise NoPlace("a place in a realm is a whole number from 0 to 400")


class Realm:
    """A land on all days at first, and others from told days on."""

    def __init__(self, land):
        need_land(land)
        self.pairs = [(None, land)]

    def change(self, day, land):
        """From a day on, later than that of the last change, dates are those of the land."""
        need_day(day)
        if not self.is_later(day):
            raise NoDay("a change is on a day greater than that of the last change")
        need_land(land)
        self.pairs.append((day, land))

    def back(self):
        """Take back what was changed last."""
        if len(self.pairs) == 1:
            raise NothingLeft("there is no change left to take back")
        self.pairs.pop()

    def date(self, day):
        """The date of a day, a pair (year, place)."""
        need_day(day)
        return date_of(self.land_on(day), day)

    def days_of(self, year, place):
        """All days that have a date, rising."""
        need_year(year)
        need_realm_place(place)
        found = []
        for at, pair in enumerate(self.pairs):
            land = pair[1]
            day = first_day(land, year) + place
            # Where the year lacks the place, this is a day of the next year.
            if day < first_day(land, year + 1) and self.rules(at, day):
                found.append(day)
        return found

    def lands(self):
        """The lands, pairs (day, land), rising, the first one's day None."""
        return list(self.pairs)

    def __len__(self):
        return len(self.pairs)

    def __eq__(self, other):
        return isinstance(other, Realm) and self.pairs == other.pairs

    def is_later(self, day):
        """Whether a day is greater than that of the last change."""
        start = self.pairs[-1][0]
        return start is None or start < day

    def rules(self, at, day):
        """Whether the land at a place among the pairs is that of the day."""
        start = self.pairs[at][0]
        if start is not None and day < start:
            return False
        return at + 1 == len(self.pairs) or day < self.pairs[at + 1][0]

    def land_on(self, day):
        """The land of a day."""
        found = self.pairs[0][1]
        for start, land in self.pairs[1:]:
            if start <= day:
                found = land
        return found
