"""Vectors of three scaled coordinates, their rotations and separations."""

from starplaces.angles import ONE, arcsin, cosine, direction, halve, sine


def vector_at(longitude, latitude):
    x = cosine(latitude) * cosine(longitude) // ONE
    y = cosine(latitude) * sine(longitude) // ONE
    return (x, y, sine(latitude))


def longitude_and_latitude(vector):
    x, y, z = vector
    return [direction(x, y), arcsin(z)]


# X(a) of the document; Y(a) and Z(a) are below.
def rotated_x(vector, a):
    x, y, z = vector
    s = sine(a)
    c = cosine(a)
    return (x, (y * c - z * s) // ONE, (y * s + z * c) // ONE)


def rotated_y(vector, a):
    x, y, z = vector
    s = sine(a)
    c = cosine(a)
    return ((x * c + z * s) // ONE, y, (z * c - x * s) // ONE)


def rotated_z(vector, a):
    x, y, z = vector
    s = sine(a)
    c = cosine(a)
    return ((x * c - y * s) // ONE, (x * s + y * c) // ONE, z)


def square_root(d):
    # A number of n bits has a root of at most n // 2 + 1 bits.
    bound = 1 << (d.bit_length() // 2 + 1)
    return halve(lambda m: m * m <= d, 0, bound)


def separation_of(first, second):
    squares = [(a - b) * (a - b) for a, b in zip(first, second)]
    chord = square_root(sum(squares))
    return 2 * arcsin(min(ONE, chord // 2))
