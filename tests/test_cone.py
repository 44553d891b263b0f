"""cone: which stars are found, their order, and the ranges."""

import random
import unittest

from tests import model
from tests.known_places import CATALOGUE
from tests.support import LAST, ONE_STAR, WRONG_MOMENTS, ask, ask_each, ask_last, declinations, line

Q = 324000000
TURN = 4 * Q
ALL = 2 * Q
DIM = 99999


def cone(text, *given):
    """The answer to one search, in a session that holds the stars of a text."""
    return ask_last(("load", text), ("cone", *given))


class Found(unittest.TestCase):
    def test_examples(self):
        got = ask(("load", ONE_STAR), ("cone", 0, 0, 0, 1000, 0), ("cone", 0, 0, 0, 999, 0))
        self.assertEqual(got[1:], [[1, 0, 0], [0]])

    def test_empty_catalogue(self):
        self.assertEqual(ask(("cone", 0, 0, ALL, 10**18, 0)), [[0]])
        self.assertEqual(cone("# none", 5, 6, ALL, DIM, 7), [0])
        self.assertEqual(ask(("load", ONE_STAR), ("load", ""), ("cone", 0, 0, ALL, DIM, 0))[2], [0])

    def test_limit_just_met_and_just_missed(self):
        for magnitude in (0, 1, -1, 30, -1460, 99999, -99999):
            sign = "-" if magnitude < 0 else ""
            text = line(magnitude=f"{sign}{abs(magnitude) // 1000}.{abs(magnitude) % 1000:03}")
            self.assertEqual(cone(text, 0, 0, 0, magnitude, 0), [1, 0, 0])
            self.assertEqual(cone(text, 0, 0, 0, magnitude - 1, 0), [0])
            self.assertEqual(cone(text, 0, 0, 0, 10**18, 0), [1, 0, 0])
            self.assertEqual(cone(text, 0, 0, 0, -10**18, 0), [0])

    def test_radius_just_met_and_just_missed(self):
        text = CATALOGUE
        for i in range(18):
            place = ask_last(("load", text), ("place", i, 0))
            point = (place[0] + 123456, max(min(place[1], Q - 1000000), -Q) + 654321)
            found = cone(text, *point, ALL, DIM, 0)
            away = dict(zip(found[1::2], found[2::2]))[i]
            self.assertGreater(away, 100000)
            self.assertIn(i, cone(text, *point, away, DIM, 0)[1::2])
            self.assertNotIn(i, cone(text, *point, away - 1, DIM, 0)[1::2])

    def test_small_separations(self):
        """A separation is twice an angle: one of 3 thousandths is told as 2."""
        text = declinations(0, 1, 2, 3, -4, 10)
        self.assertEqual(cone(text, 0, 0, 20, DIM, 0), [6, 0, 0, 1, 0, 2, 2, 3, 2, 4, 4, 5, 10])
        self.assertEqual(cone(text, 0, 0, 10, DIM, 0), [6, 0, 0, 1, 0, 2, 2, 3, 2, 4, 4, 5, 10])
        self.assertEqual(cone(text, 0, 0, 9, DIM, 0), [5, 0, 0, 1, 0, 2, 2, 3, 2, 4, 4])
        self.assertEqual(cone(text, 0, 0, 2, DIM, 0), [4, 0, 0, 1, 0, 2, 2, 3, 2])
        self.assertEqual(cone(text, 0, 0, 1, DIM, 0), [2, 0, 0, 1, 0])
        self.assertEqual(cone(text, 0, 0, 0, DIM, 0), [2, 0, 0, 1, 0])

    def test_half_a_turn(self):
        text = line("near") + "\n" + line("far", "12:00:00.000")
        self.assertEqual(cone(text, 0, 0, ALL, DIM, 0), [2, 0, 0, 1, ALL])
        self.assertEqual(cone(text, 0, 0, ALL - 1, DIM, 0), [1, 0, 0])
        self.assertEqual(cone(text, ALL, 0, ALL, DIM, 0), [2, 1, 0, 0, ALL])

    def test_all_limits_at_once(self):
        text = "\n".join([
            line("bright", declination="+00:00:30.000", magnitude="1"),
            line("dim", declination="+00:00:10.000", magnitude="5"),
            line("far", declination="+10:00:00.000", magnitude="1"),
            line("bright-too", declination="-00:00:20.000", magnitude="4.999"),
        ])
        # 30 seconds are told as 29.998: each step of a separation is rounded down.
        self.assertEqual(cone(text, 0, 0, 60000, 4999, 0), [2, 3, 20000, 0, 29998])
        self.assertEqual(cone(text, 0, 0, 60000, 5000, 0), [3, 1, 10000, 3, 20000, 0, 29998])
        self.assertEqual(cone(text, 0, 0, 25000, 4999, 0), [1, 3, 20000])


class Order(unittest.TestCase):
    def test_by_separation(self):
        text = declinations(5000, 3000, -4000, 1000, -2000)
        self.assertEqual(cone(text, 0, 0, 5000, DIM, 0), [5, 3, 1000, 4, 1998, 1, 3000, 2, 3998, 0, 4998])

    def test_equal_ones_by_their_numbers(self):
        text = declinations(4000, -2000, 2000, -4000, 2000, 4000, 0)
        self.assertEqual(cone(text, 0, 0, 5000, DIM, 0),
                         [7, 6, 0, 1, 1998, 2, 1998, 4, 1998, 0, 3998, 3, 3998, 5, 3998])

    def test_equal_separations_of_different_distances(self):
        self.assertEqual(cone(declinations(3, 2), 0, 0, 9, DIM, 0), [2, 0, 2, 1, 2])
        self.assertEqual(cone(declinations(2, 3), 0, 0, 9, DIM, 0), [2, 0, 2, 1, 2])
        self.assertEqual(cone(declinations(11, -10, 9, 10), 0, 0, 20, DIM, 0), [4, 2, 8, 0, 10, 1, 10, 3, 10])

    def test_magnitudes_do_not_matter_for_it(self):
        text = line("a", magnitude="5") + "\n" + line("b", magnitude="-1") + "\n" + line("c", magnitude="3")
        self.assertEqual(cone(text, 0, 0, 0, DIM, 0), [3, 0, 0, 1, 0, 2, 0])

    def test_sixty_stars_at_one_place(self):
        text = "\n".join(line(f"s{i}") for i in range(60))
        want = [number for i in range(60) for number in (i, 0)]
        self.assertEqual(cone(text, 0, 0, 0, 1000, 0), [60] + want)


class Points(unittest.TestCase):
    """The point of a search, and the places at the moment."""

    def test_longitudes_of_any_size(self):
        text = "\n".join(CATALOGUE.splitlines()[:8])
        for longitude in (0, 123456789, -1, 10**18 % TURN, -10**18 % TURN):
            want = cone(text, longitude, 1234567, ALL, DIM, 5)
            for turns in (1, -1, 1000):
                self.assertEqual(cone(text, longitude + turns * TURN, 1234567, ALL, DIM, 5), want)
        self.assertEqual(cone(text, 10**18, 0, ALL, DIM, 0), cone(text, 10**18 % TURN, 0, ALL, DIM, 0))
        self.assertEqual(cone(text, -10**18, 0, ALL, DIM, 0), cone(text, -10**18 % TURN, 0, ALL, DIM, 0))

    def test_poles(self):
        text = line("north", declination="+90:00:00.000") + "\n" + line("south", declination="-90:00:00.000")
        for longitude in (0, 1, 987654321):
            self.assertEqual(cone(text, longitude, Q, ALL, DIM, 0), [2, 0, 0, 1, ALL])
            self.assertEqual(cone(text, longitude, -Q, ALL, DIM, 0), [2, 1, 0, 0, ALL])
            self.assertEqual(cone(text, longitude, 0, ALL, DIM, 0), [2, 0, Q - Q % 2, 1, Q - Q % 2])

    def test_places_of_the_moment(self):
        text = line("fast", "03:00:00.000", "+20:00:00.000", "1", "5000", "-9000")
        for t in (0, LAST, -LAST, 762436800):
            longitude, latitude = ask_last(("load", text), ("place", 0, t))
            self.assertEqual(cone(text, longitude, latitude, 10, DIM, t)[:2], [1, 0])
            for other in (0, LAST, -LAST, 762436800):
                if other != t:
                    self.assertEqual(cone(text, longitude, latitude, 1000000, DIM, other), [0])

    def test_same_as_separation(self):
        """A search around a place finds what separation tells, but for rounding."""
        t = 762436800
        longitude, latitude = ask_last(("load", CATALOGUE), ("place", 0, t))
        numbers = cone(CATALOGUE, longitude, latitude, ALL, DIM, t)[1:]
        self.assertEqual(sorted(numbers[0::2]), list(range(18)))
        for i, away in zip(numbers[0::2], numbers[1::2]):
            [angle] = ask_last(("load", CATALOGUE), ("separation", 0, i, t))
            self.assertLessEqual(abs(angle - away), 10)


class Ranges(unittest.TestCase):
    def good(self, *given):
        self.assertGreaterEqual(cone(CATALOGUE, *given)[0], 0, given)
        self.assertEqual(ask(("cone", *given)), [[0]])

    def wrong(self, *given):
        self.assertEqual(cone(CATALOGUE, *given), [-2], given)
        self.assertEqual(ask(("cone", *given)), [[-2]])

    def test_moments(self):
        for t in (LAST, LAST - 1, -LAST, 1 - LAST):
            self.good(0, 0, 0, 0, t)
        for t in WRONG_MOMENTS:
            self.wrong(0, 0, 0, 0, t)

    def test_latitudes(self):
        for latitude in (Q, Q - 1, -Q, 1 - Q):
            self.good(0, latitude, 0, 0, 0)
        for latitude in (Q + 1, -Q - 1, 2 * Q, TURN, 10**18, -10**18):
            self.wrong(0, latitude, 0, 0, 0)

    def test_radii(self):
        for radius in (0, 1, ALL, ALL - 1):
            self.good(0, 0, radius, 0, 0)
        for radius in (-1, ALL + 1, TURN, 10**18, -10**18):
            self.wrong(0, 0, radius, 0, 0)

    def test_longitudes_and_limits_have_none(self):
        for number in (10**18, -10**18, TURN, TURN + 1, -1):
            self.good(number, 0, 0, 0, 0)
            self.good(0, 0, 0, number, 0)

    def test_one_number_out_of_range_is_enough(self):
        self.wrong(0, Q + 1, -1, 0, LAST + 1)
        self.wrong(0, Q + 1, ALL + 1, 0, 0)
        self.wrong(0, 0, -1, 0, -LAST - 1)

    def test_an_error_changes_nothing(self):
        got = ask(("load", CATALOGUE), ("export",), ("cone", 0, 0, -1, DIM, 0), ("cone", 0, Q + 1, 0, DIM, 0),
                  ("export",), ("find", "near-3"))
        self.assertEqual(got[2:], [[-2], [-2], got[1], [17]])


class AsTheFormulasSay(unittest.TestCase):
    """Against the model, which takes every formula as it stands."""

    def check(self, stars, searches):
        got = ask_each([("cone", *given) for given in searches], ("load", model.text(stars)))
        for given, result in zip(searches, got, strict=True):
            self.assertEqual(result, model.cone(stars, *given), given)
        return got

    def test_whole_sky(self):
        source = random.Random(31)
        searches = []
        for t in (0, 762436800, LAST, -LAST):
            for radius in (ALL, 100000000, 300000000, 20000000):
                latitude = source.choice([Q, -Q, 0, source.randrange(-Q, Q)])
                searches.append((source.randrange(TURN), latitude, radius, source.randrange(9000), t))
        got = self.check(model.some_stars(60, 32), searches)
        self.assertGreater(sum(result[0] for result in got), 100)

    def test_small_fields(self):
        for seed in range(6):
            stars = model.some_stars(40, 40 + seed, (1, 3, 100)[seed % 3])
            points = [(0, 0), (0, 7), (15, -30), (TURN - 15, 1)]
            searches = [(*point, radius, 5000, 0) for point in points for radius in (0, 2, 15, 31, 2000)]
            self.check(stars, searches)

    def test_bands(self):
        """Requirement 10: the bands that are reached, and one more on both sides, hold all found stars."""
        width = 36000000
        source = random.Random(33)
        stars = model.some_stars(60, 34)
        text = model.text(stars)
        for _ in range(40):
            t = source.randrange(-LAST, LAST)
            latitude = source.choice([Q, -Q, 0, width, source.randrange(-Q, Q + 1)])
            radius = source.choice([0, width, 2 * width - 1, source.randrange(5 * width), ALL])
            first = (latitude - radius + Q) // width - 1
            last = (latitude + radius + Q) // width + 1
            got = ask(("load", text), ("cone", source.randrange(TURN), latitude, radius, DIM, t),
                      *[("place", i, t) for i in range(30)])
            for i in got[1][1::2]:
                if i < 30:
                    band = min((got[2 + i][1] + Q) // width, 17)
                    self.assertTrue(first <= band <= last, (latitude, radius, t, i))


if __name__ == "__main__":
    unittest.main()
