"""A session: one catalogue, and the operations on it.

Each operation gives back the list of the numbers that it answers.
"""

from starplaces.angles import HALF_TURN, QUARTER
from starplaces.error_codes import NO_SUCH_STAR, OUT_OF_RANGE
from starplaces.positions import ecliptic_vector, horizontal_vector, place_vector
from starplaces.searches import found_stars, matches_of
from starplaces.texts import index_of_name, read_catalogue, written_catalogue
from starplaces.times import is_moment
from starplaces.vectors import longitude_and_latitude, separation_of, vector_at


def is_observation(t, site_longitude, site_latitude):
    if not is_moment(t):
        return False
    return -HALF_TURN <= site_longitude <= HALF_TURN and -QUARTER <= site_latitude <= QUARTER


def is_search(latitude, radius, t):
    if not is_moment(t):
        return False
    return -QUARTER <= latitude <= QUARTER and 0 <= radius <= HALF_TURN


class Session:
    def __init__(self):
        self.stars = []

    def load(self, text):
        error, stars = read_catalogue(text)
        if len(error) > 0:
            return error
        self.stars = stars
        return [len(stars)]

    def describe(self, i):
        if i >= len(self.stars):
            return [-NO_SUCH_STAR]
        star = self.stars[i]
        numbers = [
            star.right_ascension,
            star.declination,
            star.magnitude,
            star.right_ascension_motion,
            star.declination_motion,
            len(star.name),
        ]
        return numbers + star.name

    def search_name(self, name):
        i = index_of_name(self.stars, name)
        if i is None:
            return [-NO_SUCH_STAR]
        return [i]

    def export(self):
        text = written_catalogue(self.stars)
        return [len(text)] + text

    def place(self, i, t):
        if i >= len(self.stars):
            return [-NO_SUCH_STAR]
        if not is_moment(t):
            return [-OUT_OF_RANGE]
        return longitude_and_latitude(place_vector(self.stars[i], t))

    def horizon(self, i, t, site_longitude, site_latitude):
        if i >= len(self.stars):
            return [-NO_SUCH_STAR]
        if not is_observation(t, site_longitude, site_latitude):
            return [-OUT_OF_RANGE]
        vector = place_vector(self.stars[i], t)
        return longitude_and_latitude(horizontal_vector(vector, t, site_longitude, site_latitude))

    def ecliptic(self, i, t):
        if i >= len(self.stars):
            return [-NO_SUCH_STAR]
        if not is_moment(t):
            return [-OUT_OF_RANGE]
        return longitude_and_latitude(ecliptic_vector(place_vector(self.stars[i], t)))

    def separation(self, i, j, t):
        if i >= len(self.stars) or j >= len(self.stars):
            return [-NO_SUCH_STAR]
        if not is_moment(t):
            return [-OUT_OF_RANGE]
        first = place_vector(self.stars[i], t)
        second = place_vector(self.stars[j], t)
        return [separation_of(first, second)]

    def cone(self, longitude, latitude, radius, limit, t):
        if not is_search(latitude, radius, t):
            return [-OUT_OF_RANGE]
        found = found_stars(self.stars, vector_at(longitude, latitude), radius, limit, t)
        numbers = [len(found)]
        for angle, i in found:
            numbers.extend([i, angle])
        return numbers

    def match_with(self, tolerance, t, text):
        if not is_moment(t):
            return [-OUT_OF_RANGE]
        error, others = read_catalogue(text)
        if len(error) > 0:
            return error
        matches = matches_of(self.stars, others, t, tolerance)
        numbers = [len(matches)]
        for pair in matches:
            numbers.extend(pair)
        return numbers
