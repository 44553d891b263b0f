"""A star of the catalogue and where it stands at a moment."""

from starplaces.angles import ONE, cosine, sine
from starplaces.times import YEAR, sidereal_time
from starplaces.vectors import rotated_x, rotated_y, rotated_z, vector_at

CENTURY = 3155760000
PRECESSION_P = 2306218
PRECESSION_N = 2004311
OBLIQUITY = 84381448


class Star:
    """A star: its name as bytes, then angles, and thousandths of a magnitude."""

    def __init__(self, name, right_ascension, declination, magnitude, motions):
        self.name = name
        self.right_ascension = right_ascension
        self.declination = declination
        self.magnitude = magnitude
        self.right_ascension_motion = motions[0]
        self.declination_motion = motions[1]


def moved_vector(star, t):
    """The vector of a star in the system of the year 2000, moved on to t."""
    longitude = star.right_ascension + star.right_ascension_motion * t // YEAR
    latitude = star.declination + star.declination_motion * t // YEAR
    return vector_at(longitude, latitude)


def place_vector(star, t):
    """The place of a star: its vector in the system of the moment t."""
    p = PRECESSION_P * t // CENTURY
    n = PRECESSION_N * t // CENTURY
    vector = rotated_z(moved_vector(star, t), p)
    return rotated_z(rotated_y(vector, -n), p)


def ecliptic_vector(vector):
    """A vector as the ecliptic system has it."""
    return rotated_x(vector, -OBLIQUITY)


def horizontal_vector(vector, t, site_longitude, site_latitude):
    """North, east and up of a vector, seen from a site at the moment t."""
    x, y, z = rotated_z(vector, -(sidereal_time(t) + site_longitude))
    s = sine(site_latitude)
    c = cosine(site_latitude)
    return ((z * c - x * s) // ONE, y, (x * c + z * s) // ONE)
