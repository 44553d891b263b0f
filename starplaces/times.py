"""Moments, which are seconds since 1 January 2000, 12:00."""

from starplaces.angles import TURN

YEAR = 31557600
LAST_MOMENT = 10000000000
SIDEREAL_START = 1009658226
SIDEREAL_GAIN = 1299548330518644
SIDEREAL_SPAN = 86400000000


def is_moment(t):
    return -LAST_MOMENT <= t <= LAST_MOMENT


def sidereal_time(t):
    return (SIDEREAL_START + t * SIDEREAL_GAIN // SIDEREAL_SPAN) % TURN
