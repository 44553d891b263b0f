"""The operations that need no catalogue.

Each of them gives back the list of the numbers that it answers.
"""

from starplaces.angles import ONE, arcsin, cosine, direction, sine
from starplaces.dates import date_of, is_date, moment_of
from starplaces.error_codes import OUT_OF_RANGE
from starplaces.times import is_moment, sidereal_time


def date_answer(t):
    if not is_moment(t):
        return [-OUT_OF_RANGE]
    return date_of(t)


def moment_answer(year, month, day, second):
    if not is_date(year, month, day, second):
        return [-OUT_OF_RANGE]
    # A moment may be negative: the 0 ahead of it tells that it is no error.
    return [0, moment_of(year, month, day, second)]


def sidereal_answer(t):
    if not is_moment(t):
        return [-OUT_OF_RANGE]
    return [sidereal_time(t)]


def sines_answer(a):
    # A sine may be negative: the 0 ahead of it tells that it is no error.
    return [0, sine(a), cosine(a)]


def angles_answer(x, y):
    if not (-ONE <= x <= ONE and -ONE <= y <= ONE):
        return [-OUT_OF_RANGE]
    return [direction(x, y), arcsin(y)]
