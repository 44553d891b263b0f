"""The numbers beneath: sines, directions, vectors, rotations, times."""

import math
import random
import unittest

from starplaces.angles import arcsin, cosine, direction, halve, sine
from starplaces.positions import horizontal_vector, place_vector
from starplaces.texts import read_catalogue
from starplaces.times import sidereal_time
from starplaces.vectors import (
    is_within,
    longitude_and_latitude,
    rotated_x,
    rotated_y,
    rotated_z,
    separation_at,
    separation_of,
    square_root,
    vector_at,
)
from tests.known_places import CATALOGUE
from tests.support import as_bytes

E = 10**18
Q = 324000000
TURN = 4 * Q
EDGES = [0, 1, 2, Q // 2 - 1, Q // 2, Q // 2 + 1, Q - 2, Q - 1]


def some_angles(count, seed):
    """Angles of all quarters, those beside their edges among them."""
    source = random.Random(seed)
    angles = [edge + k * Q for edge in EDGES for k in range(-5, 6)]
    angles += [source.randrange(-3 * TURN, 3 * TURN) for _ in range(count)]
    return angles + [10**18, -10**18]


def some_vectors(count, seed):
    source = random.Random(seed)
    vectors = [(a, b, c) for a in (0, E, -E) for b in (0, E, -E) for c in (0, E, -E)]
    return vectors + [tuple(source.randrange(-E, E + 1) for _ in range(3)) for _ in range(count)]


def length(vector):
    return math.isqrt(sum(x * x for x in vector))


class Sines(unittest.TestCase):
    def test_quarters(self):
        self.assertEqual([sine(k * Q) for k in range(-4, 5)], [0, E, 0, -E, 0, E, 0, -E, 0])
        self.assertEqual([cosine(k * Q) for k in range(-4, 5)], [E, 0, -E, 0, E, 0, -E, 0, E])

    def test_known(self):
        self.assertEqual(sine(1), 4848136811)
        self.assertEqual(cosine(1), 999999999999999989)
        self.assertEqual(sine(-1), -4848136811)
        self.assertEqual((sine(108000000), cosine(108000000)), (500000000000000000, 866025403784438646))
        self.assertEqual((sine(162000000), cosine(162000000)), (707106781186547524, 707106781186547525))
        self.assertEqual((sine(-123456789), cosine(-123456789)), (-563433084443196413, 826161702909803185))
        self.assertEqual((sine(500000000), cosine(500000000)), (657521368569063656, -753435896327660744))

    def test_as_floating_point_says(self):
        for a in some_angles(300, 1):
            turns = a % TURN * math.pi / (2 * Q)
            self.assertLess(abs(sine(a) / E - math.sin(turns)), 1e-14)
            self.assertLess(abs(cosine(a) / E - math.cos(turns)), 1e-14)

    def test_squares_and_shift(self):
        for a in some_angles(300, 2):
            self.assertLessEqual(abs(sine(a) ** 2 + cosine(a) ** 2 - E * E), 100 * E)
            self.assertEqual(sine(a + Q), cosine(a))

    def test_sine_of_a_sum(self):
        angles = some_angles(300, 3)
        for a, b in zip(angles, reversed(angles)):
            want = (sine(a) * cosine(b) + cosine(a) * sine(b)) // E
            self.assertLessEqual(abs(sine(a + b) - want), 1000)


class Halving(unittest.TestCase):
    def test_last_that_holds(self):
        for last in range(10):
            self.assertEqual(halve(lambda m: m <= last, 0, 10), last)

    def test_ends_are_not_asked(self):
        def refuse(m):
            raise AssertionError(m)

        self.assertEqual(halve(refuse, 5, 6), 5)
        self.assertEqual(halve(refuse, 5, 5), 5)
        self.assertEqual(halve(lambda m: False, 3, 100), 3)
        self.assertEqual(halve(lambda m: True, 3, 100), 99)


class ArcSines(unittest.TestCase):
    def test_known(self):
        known = {0: 0, 1: 0, -1: 0, E: Q, -E: -Q, 2 * E: Q, -2 * E: -Q, 4848136811: 1, 4848136810: 0, E - 1: Q - 1}
        for v, angle in known.items():
            self.assertEqual(arcsin(v), angle, v)

    def test_last_angle_whose_sine_is_not_greater(self):
        source = random.Random(4)
        values = [source.randrange(sine(Q + 1)) for _ in range(200)]
        values += [sine(a) + d for a in EDGES[:-1] for d in (-1, 0, 1) if sine(a) + d >= 0]
        for v in values:
            a = arcsin(v)
            self.assertLessEqual(sine(a), v)
            self.assertGreater(sine(a + 1), v)
            self.assertEqual(arcsin(-v), -a)


class DirectionsOfPoints(unittest.TestCase):
    def test_rows_and_axes(self):
        known = {(0, 0): 0, (1, 0): 0, (E, 0): 0, (0, 1): Q, (0, E): Q, (-1, 0): 2 * Q, (0, -1): 3 * Q, (0, -E): 3 * Q,
                 (E, E): 162000000, (-E, E): 486000000, (-E, -E): 810000000, (E, -E): 1134000000,
                 (E, 1): 0, (-1, E): Q, (-E, -1): 2 * Q, (1, -E): 3 * Q,
                 (E, -1): TURN - 1, (1, E): Q - 1, (-E, 1): 2 * Q - 1, (-1, -E): 3 * Q - 1}
        for (x, y), angle in known.items():
            self.assertEqual(direction(x, y), angle, (x, y))

    def test_of_cosine_and_sine(self):
        for a in some_angles(300, 5):
            away = (direction(cosine(a), sine(a)) - a) % TURN
            self.assertLessEqual(min(away, TURN - away), 2)


class Vectors(unittest.TestCase):
    def test_axes(self):
        self.assertEqual([vector_at(k * Q, 0) for k in range(4)], [(E, 0, 0), (0, E, 0), (-E, 0, 0), (0, -E, 0)])
        self.assertEqual([vector_at(5, Q), vector_at(5, -Q)], [(0, 0, E), (0, 0, -E)])
        self.assertEqual(vector_at(0, 2 * Q), (-E, 0, 0))

    def test_rounded_down(self):
        self.assertEqual(vector_at(1, 1), (999999999999999978, 4848136810, 4848136811))
        self.assertEqual(vector_at(-1, 1), (999999999999999978, -4848136811, 4848136811))
        self.assertEqual(vector_at(-123456789, 98765432),
                         (733247731198804531, -500066790066910969, 460739590402194209))

    def test_longitude_and_latitude(self):
        source = random.Random(6)
        degree = 3600000
        for _ in range(300):
            want = [source.randrange(TURN), source.randrange(-89 * degree, 89 * degree + 1)]
            got = longitude_and_latitude(vector_at(*want))
            away = (got[0] - want[0]) % TURN
            self.assertLessEqual(min(away, TURN - away), 100)
            self.assertLessEqual(abs(got[1] - want[1]), 2)


class Rotations(unittest.TestCase):
    def test_quarters(self):
        vector = (1, 20, 300)
        self.assertEqual(rotated_x(vector, Q), (1, -300, 20))
        self.assertEqual(rotated_y(vector, Q), (300, 20, -1))
        self.assertEqual(rotated_z(vector, Q), (-20, 1, 300))
        for rotated in (rotated_x, rotated_y, rotated_z):
            self.assertEqual(rotated(vector, 0), vector)
            self.assertEqual(rotated(vector, TURN), vector)

    def test_rounded_down(self):
        self.assertEqual(rotated_x((7, 1, 0), -1), (7, 0, -1))
        self.assertEqual(rotated_x((7, 0, 1), 1), (7, -1, 0))
        self.assertEqual(rotated_y((1, 7, 0), 1), (0, 7, -1))
        self.assertEqual(rotated_z((0, 1, 7), 1), (-1, 0, 7))

    def test_opposite_and_lengths(self):
        vectors = some_vectors(100, 7)
        angles = some_angles(200, 8)
        for vector, a in zip(vectors * 2, angles):
            for rotated in (rotated_x, rotated_y, rotated_z):
                there = rotated(vector, a)
                self.assertLessEqual(abs(length(there) - length(vector)), 100)
                for first, second in zip(rotated(there, -a), vector):
                    self.assertLessEqual(abs(first - second), 1000)


class Precession(unittest.TestCase):
    def test_it_can_be_undone(self):
        error, stars = read_catalogue(as_bytes(CATALOGUE))
        self.assertEqual(error, [])
        for star in stars:
            for t in (0, 1, -1, 762436800, -10**10, 10**10):
                p = 2306218 * t // 3155760000
                n = 2004311 * t // 3155760000
                back = rotated_z(rotated_y(rotated_z(place_vector(star, t), -p), n), -p)
                longitude = star.right_ascension + star.right_ascension_motion * t // 31557600
                latitude = star.declination + star.declination_motion * t // 31557600
                for first, second in zip(back, vector_at(longitude, latitude)):
                    self.assertLessEqual(abs(first - second), 1000)


class SeparationsOfVectors(unittest.TestCase):
    def test_root(self):
        for d in list(range(200)) + [E * E * 4, E * E * 4 - 1, E * E - 1, E * E, E * E + 1]:
            self.assertEqual(square_root(d), math.isqrt(d))

    def test_known(self):
        x, y, z = (E, 0, 0), (0, E, 0), (0, 0, -E)
        self.assertEqual([separation_of(x, x), separation_of(x, y), separation_of(y, z)], [0, Q, Q])
        self.assertEqual(separation_of(z, (0, 0, E)), 2 * Q)
        self.assertEqual(separation_of((0, 0, E + 9), (0, 0, -E - 9)), 2 * Q)

    def test_within_as_the_separation_says(self):
        """At the least square of a larger separation, and beside it."""
        for a in (0, 1, 2, 3, 10, 99, Q // 2, Q - 1, Q, Q + 1, 2 * Q - 4, 2 * Q - 3, 2 * Q - 2, 2 * Q - 1, 2 * Q):
            edges = [0, 1, 4 * E * E - 1, 4 * E * E, 5 * E * E]
            for half in (a // 2, a // 2 + 1):
                edge = 4 * sine(min(half, Q)) ** 2
                edges += [max(0, edge - 1), edge, edge + 1]
            for square in edges:
                self.assertEqual(is_within(square, a), separation_at(square) <= a, (square, a))

    def test_order_and_range(self):
        angles = some_angles(100, 9)
        vectors = [vector_at(a, b) for a, b in zip(angles, reversed(angles))]
        for u, v in zip(vectors, vectors[7:]):
            self.assertEqual(separation_of(u, v), separation_of(v, u))
            self.assertTrue(0 <= separation_of(u, v) <= 2 * Q)
            self.assertEqual(separation_of(u, u), 0)


class Horizons(unittest.TestCase):
    def test_rounded_down(self):
        # At this longitude of the site the sidereal time is 0.
        longitude = TURN - 1009658226
        self.assertEqual(horizontal_vector((-1, 7, 0), 0, longitude, 1), (0, 7, -1))
        self.assertEqual(horizontal_vector((1, 7, 0), 0, longitude, 1), (-1, 7, 0))
        self.assertEqual(horizontal_vector((3, 7, 5), 0, longitude, Q), (-3, 7, 5))
        self.assertEqual(horizontal_vector((3, 7, 5), 0, longitude + Q, 0), (5, -3, 7))


class SiderealTime(unittest.TestCase):
    def test_known(self):
        known = {0: 1009658226, 1: 1009673267, -1: 1009643184, 86400: 1013206556, 10**10: 528060846,
                 -10**10: 195255605}
        for t, angle in known.items():
            self.assertEqual(sidereal_time(t), angle, t)


if __name__ == "__main__":
    unittest.main()
