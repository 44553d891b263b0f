"""Vectors of three scaled coordinates, their rotations and separations."""

from starplaces.angles import ONE, QUARTER, arcsin, cosine, direction, halve, sine


def vector_at(longitude, latitude):
    x = cosine(latitude) * cosine(longitude) // ONE
    y = cosine(latitude) * sine(longitude) // ONE
    return (x, y, sine(latitude))


def longitude_and_latitude(vector):
    x, y, z = vector
    return [direction(x, y), arcsin(z)]


# X(a) of the document; Y(a) and Z(a) are below.
def rotated_x(vector, a):
    x, y, z = vector
    s = sine(a)
    c = cosine(a)
    return (x, (y * c - z * s) // ONE, (y * s + z * c) // ONE)


def rotated_y(vector, a):
    x, y, z = vector
    s = sine(a)
    c = cosine(a)
    return ((x * c + z * s) // ONE, y, (z * c - x * s) // ONE)


def rotated_z(vector, a):
    x, y, z = vector
    s = sine(a)
    c = cosine(a)
    return ((x * c - y * s) // ONE, (x * s + y * c) // ONE, z)


def square_root(d):
    # A number of n bits has a root of at most n // 2 + 1 bits.
    bound = 1 << (d.bit_length() // 2 + 1)
    return halve(lambda m: m * m <= d, 0, bound)


def square_of_distance(first, second):
    return sum([(a - b) * (a - b) for a, b in zip(first, second)])


# From the square of a distance.
def separation_at(square):
    return 2 * arcsin(min(ONE, square_root(square) // 2))


def separation_of(first, second):
    return separation_at(square_of_distance(first, second))


# Whether separation_at(square) is at most an angle, which is not negative.
# As sines rise up to a quarter, one of them tells it without any halving.
def is_within(square, angle):
    half = angle // 2
    if half >= QUARTER:
        return True
    bound = 2 * sine(half + 1)
    return square < bound * bound
