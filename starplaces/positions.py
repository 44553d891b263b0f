"""A star of the catalogue and where it stands at a moment."""

from starplaces.angles import ONE, cosine, sine
from starplaces.times import YEAR, sidereal_time
from starplaces.vectors import rotated_x, rotated_y, rotated_z, vector_at

CENTURY = 3155760000
PRECESSION_P = 2306218
PRECESSION_N = 2004311
OBLIQUITY = 84381448


class Star:
    def __init__(self, name, right_ascension, declination, magnitude, motions):
        self.name = name
        self.right_ascension = right_ascension
        self.declination = declination
        self.magnitude = magnitude
        self.right_ascension_motion = motions[0]
        self.declination_motion = motions[1]


# In the system of the year 2000: the motion alone is taken up to t.
def moved_vector(star, t):
    longitude = star.right_ascension + star.right_ascension_motion * t // YEAR
    latitude = star.declination + star.declination_motion * t // YEAR
    return vector_at(longitude, latitude)


# In the system of the moment.
def place_vector(star, t):
    p = PRECESSION_P * t // CENTURY
    n = PRECESSION_N * t // CENTURY
    vector = rotated_z(moved_vector(star, t), p)
    return rotated_z(rotated_y(vector, -n), p)


def ecliptic_vector(vector):
    return rotated_x(vector, -OBLIQUITY)


# North, east, up.
def horizontal_vector(vector, t, site_longitude, site_latitude):
    x, y, z = rotated_z(vector, -(sidereal_time(t) + site_longitude))
    s = sine(site_latitude)
    c = cosine(site_latitude)
    return ((z * c - x * s) // ONE, y, (x * c + z * s) // ONE)
