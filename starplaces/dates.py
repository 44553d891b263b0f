"""Dates of the Gregorian calendar, extended to all years, and their moments.

Days are numbered from 1 January of the year 1, which is 0.
"""

DAY = 86400
NOON = 43200
START_YEAR = 2000
FIRST_YEAR = 1700
LAST_YEAR = 2300
DAYS_IN_400_YEARS = 146097
FEBRUARY = 2
MONTH_LENGTHS = (31, 28, 31, 30, 31, 30, 31, 31, 30, 31, 30, 31)


def is_leap_year(year):
    return year % 4 == 0 and (year % 100 != 0 or year % 400 == 0)


def month_length(year, month):
    if month == FEBRUARY and is_leap_year(year):
        return 29
    return MONTH_LENGTHS[month - 1]


# The number of the year's first day.
def days_before_year(year):
    past = year - 1
    return past * 365 + past // 4 - past // 100 + past // 400


def days_before_month(year, month):
    return sum([month_length(year, earlier) for earlier in range(1, month)])


def year_of(day_number):
    # Against years of mean length a year begins less than two days early and
    # less than one day late: the guess is right, or it is the year before.
    guess = day_number * 400 // DAYS_IN_400_YEARS + 1
    if day_number < days_before_year(guess + 1):
        return guess
    return guess + 1


# Year, month, day and second.
def date_of(t):
    days, second = divmod(t + NOON, DAY)
    day_number = days + days_before_year(START_YEAR)
    year = year_of(day_number)
    month = 1
    left = day_number - days_before_year(year)
    while left >= month_length(year, month):
        left -= month_length(year, month)
        month += 1
    return [year, month, left + 1, second]


def is_date(year, month, day, second):
    if not FIRST_YEAR <= year <= LAST_YEAR:
        return False
    if not 1 <= month <= len(MONTH_LENGTHS):
        return False
    return 1 <= day <= month_length(year, month) and 0 <= second < DAY


def moment_of(year, month, day, second):
    day_number = days_before_year(year) + days_before_month(year, month) + day - 1
    return (day_number - days_before_year(START_YEAR)) * DAY + second - NOON
