"""date and moment: the Gregorian calendar, and the dates that aren't there."""

import datetime
import random
import unittest

from starplaces.dates import date_of
from tests.support import LAST, WRONG_MOMENTS, ask, ask_each

DAY = 86400
NOON = 43200
START = datetime.datetime(2000, 1, 1, 12)
CENTURIES = (1700, 1800, 1900, 2000, 2100, 2200, 2300)
LENGTHS = {1: 31, 2: 28, 3: 31, 4: 30, 5: 31, 6: 30, 7: 31, 8: 31, 9: 30, 10: 31, 11: 30, 12: 31}


def expected_date(t):
    """As Python's own calendar has it, which is Gregorian in all years."""
    at = START + datetime.timedelta(seconds=t)
    return [at.year, at.month, at.day, at.hour * 3600 + at.minute * 60 + at.second]


def expected_moment(year, month, day, second):
    away = datetime.datetime(year, month, day) + datetime.timedelta(seconds=second) - START
    return away.days * DAY + away.seconds


def date(t):
    return ask(("date", t))[0]


def moment(*given):
    return ask(("moment", *given))[0]


class Dates(unittest.TestCase):
    def test_examples(self):
        got = ask(("date", 0), ("date", -1), ("date", LAST + 1), ("date", 762436800))
        self.assertEqual(got, [[2000, 1, 1, 43200], [2000, 1, 1, 43199], [-2], [2024, 2, 29, 0]])

    def test_midnights(self):
        self.assertEqual(date(-NOON), [2000, 1, 1, 0])
        self.assertEqual(date(-NOON - 1), [1999, 12, 31, 86399])
        self.assertEqual(date(NOON), [2000, 1, 2, 0])
        self.assertEqual(date(NOON - 1), [2000, 1, 1, 86399])
        self.assertEqual(date(NOON + 59 * DAY - 1), [2000, 2, 29, 86399])
        self.assertEqual(date(NOON + 59 * DAY), [2000, 3, 1, 0])

    def test_first_and_last_moment(self):
        self.assertEqual(date(LAST), [2316, 11, 21, 20800])
        self.assertEqual(date(-LAST), [1683, 2, 10, 65600])
        for t in (LAST, LAST - 1, -LAST, 1 - LAST):
            self.assertEqual(date(t), expected_date(t))
        for t in WRONG_MOMENTS:
            self.assertEqual(date(t), [-2], t)

    def test_each_day_that_moments_reach(self):
        first = -(LAST // DAY) * DAY
        for t in range(first, LAST, DAY):
            self.assertEqual(date_of(t), expected_date(t), t)

    def test_any_moments(self):
        source = random.Random(21)
        moments = [source.randrange(-LAST, LAST + 1) for _ in range(2000)]
        for t, result in zip(moments, ask_each([("date", t) for t in moments]), strict=True):
            self.assertEqual(result, expected_date(t), t)

    def test_ends_of_months_and_years(self):
        moments = []
        for year in CENTURIES + (1684, 1699, 1701, 1704, 1999, 2001, 2003, 2004, 2023, 2024, 2299, 2304, 2315):
            for month in LENGTHS:
                midnight = expected_moment(year, month, 1, 0)
                moments += [midnight - DAY, midnight - 1, midnight, midnight + 1, midnight + DAY - 1]
        for t, result in zip(moments, ask_each([("date", t) for t in moments]), strict=True):
            self.assertEqual(result, expected_date(t), t)


class Moments(unittest.TestCase):
    def test_examples(self):
        got = ask(("moment", 2000, 1, 1, 43200), ("moment", 2024, 2, 29, 0), ("moment", 2023, 2, 29, 0))
        self.assertEqual(got, [[0, 0], [0, 762436800], [-2]])

    def test_before_and_after_the_start(self):
        self.assertEqual(moment(2000, 1, 1, 43199), [0, -1])
        self.assertEqual(moment(2000, 1, 1, 43201), [0, 1])
        self.assertEqual(moment(2000, 1, 1, 0), [0, -NOON])
        self.assertEqual(moment(1999, 12, 31, 86399), [0, -NOON - 1])
        self.assertEqual(moment(2000, 3, 1, 0), [0, NOON + 59 * DAY])
        self.assertEqual(moment(1999, 1, 1, 43200), [0, -365 * DAY])
        self.assertEqual(moment(2001, 1, 1, 43200), [0, 366 * DAY])

    def test_years(self):
        self.assertEqual(moment(1700, 1, 1, 0), [0, expected_moment(1700, 1, 1, 0)])
        self.assertEqual(moment(1700, 1, 1, 0), [0, -109572 * DAY - NOON])
        self.assertEqual(moment(2300, 12, 31, 86399), [0, expected_moment(2300, 12, 31, 86399)])
        for year in (1699, 2301, 0, -2000, 99, 10**18, -10**18):
            self.assertEqual(moment(year, 1, 1, 0), [-2], year)
            self.assertEqual(moment(year, 12, 31, 86399), [-2], year)

    def test_months_that_are_not_there(self):
        for month in (0, 13, -1, -11, 14, 24, 10**18, -10**18):
            for day in (1, 28, 31):
                self.assertEqual(moment(2000, month, day, 0), [-2], month)

    def test_days_of_each_month(self):
        for year in CENTURIES + (1996, 2023, 2024):
            leap = year % 4 == 0 and year not in (1700, 1800, 1900, 2100, 2200, 2300)
            for month, usual in LENGTHS.items():
                last = 29 if leap and month == 2 else usual
                for day in (1, 2, last - 1, last):
                    self.assertEqual(moment(year, month, day, 7), [0, expected_moment(year, month, day, 7)])
                for day in (0, -1, last + 1, 32, 33, 10**18, -10**18):
                    self.assertEqual(moment(year, month, day, 7), [-2], (year, month, day))

    def test_seconds_that_are_not_there(self):
        for year, month, day in ((2000, 1, 1), (1700, 1, 1), (2300, 12, 31), (2024, 2, 29)):
            first = expected_moment(year, month, day, 0)
            self.assertEqual(moment(year, month, day, 0), [0, first])
            self.assertEqual(moment(year, month, day, 86399), [0, first + 86399])
            for second in (-1, 86400, 86401, -86400, 10**18, -10**18):
                self.assertEqual(moment(year, month, day, second), [-2], second)

    def test_wrong_in_several(self):
        for given in ((1699, 13, 32, 86400), (2000, 0, 0, -1), (2000, 13, 31, 86400), (2301, 2, 30, 0)):
            self.assertEqual(moment(*given), [-2], given)

    def test_each_month(self):
        dates = [(year, month, 1, 0) for year in range(1700, 2301) for month in range(1, 13)]
        for given, result in zip(dates, ask_each([("moment", *given) for given in dates]), strict=True):
            self.assertEqual(result, [0, expected_moment(*given)], given)


class BothWays(unittest.TestCase):
    """Requirement 8: every moment has one date, and every date one moment."""

    FIRST = expected_moment(1700, 1, 1, 0)
    LATEST = expected_moment(2300, 12, 31, 86399)

    def test_moment_of_a_date(self):
        source = random.Random(22)
        moments = [source.randrange(self.FIRST, self.LATEST + 1) for _ in range(1000)]
        moments += [0, 1, -1, NOON, -NOON, -NOON - 1, self.FIRST, self.FIRST + 1, self.LATEST, self.LATEST - 1]
        dates = ask_each([("date", t) for t in moments])
        self.assertEqual(ask_each([("moment", *given) for given in dates]), [[0, t] for t in moments])

    def test_date_of_a_moment(self):
        source = random.Random(23)
        dates = []
        for _ in range(1000):
            month = source.randrange(1, 13)
            day = source.randrange(1, LENGTHS[month] + 1)
            dates.append([source.randrange(1700, 2301), month, day, source.randrange(DAY)])
        dates += [[year, 12, 31, 86399] for year in CENTURIES] + [[year, 1, 1, 0] for year in CENTURIES]
        dates += [[year, 2, 28, 86399] for year in CENTURIES] + [[year, 3, 1, 0] for year in CENTURIES]
        moments = ask_each([("moment", *given) for given in dates])
        self.assertEqual(ask_each([("date", t) for zero, t in moments]), dates)

    def test_dates_beyond_the_years_of_moment(self):
        for t in (self.FIRST - 1, self.LATEST + 1, LAST, -LAST):
            self.assertEqual(date(t), expected_date(t))
            self.assertEqual(moment(*date(t)), [-2])

    def test_a_date_for_each_of_many_seconds(self):
        for t in range(-NOON - 200, -NOON + 200):
            year, month, day, second = date(t)
            self.assertEqual(moment(year, month, day, second), [0, t])


if __name__ == "__main__":
    unittest.main()
