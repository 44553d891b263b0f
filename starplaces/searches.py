"""Searches around a point, and the matching of two catalogues."""

from starplaces.positions import place_vector
from starplaces.vectors import is_within, separation_at, separation_of, square_of_distance


# The separation and the number of each star found, in order.
def found_stars(stars, vector, radius, limit, t):
    found = []
    for number, star in enumerate(stars):
        if star.magnitude <= limit:
            angle = separation_of(place_vector(star, t), vector)
            if angle <= radius:
                found.append((angle, number))
    return sorted(found)


def squares_from(vector, others):
    return [square_of_distance(vector, other) for other in others]


# From the squares of the distances to some stars, the first of the nearest.
def nearest_number(squares):
    # Nearest are all that have this separation: their distances may differ.
    separation = separation_at(min(squares))
    number = 0
    while not is_within(squares[number], separation):
        number += 1
    return number


# Both numbers of each match, and the separation.
def matches_of(stars, others, t, tolerance):
    if len(stars) == 0 or len(others) == 0:
        return []
    places = [place_vector(star, t) for star in stars]
    other_places = [place_vector(other, t) for other in others]
    nearest_stars = [nearest_number(squares_from(other, places)) for other in other_places]
    matches = []
    for i, place in enumerate(places):
        j = nearest_number(squares_from(place, other_places))
        angle = separation_of(place, other_places[j])
        if nearest_stars[j] == i and angle <= tolerance:
            matches.append((i, j, angle))
    return matches
