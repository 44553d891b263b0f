"""place, horizon, ecliptic and separation: results, ranges, order of errors."""

import math
import unittest

from tests.known_places import CATALOGUE, ECLIPTICS, HORIZONS, PLACES, SEPARATIONS
from tests.support import LAST, ONE_STAR, WRONG_MOMENTS, ask, ask_each, line

TURN = 1296000000
QUARTER = 324000000
# At the moment 0 and this longitude of the site the sidereal time is 0.
ZERO_SITE = TURN - 1009658226


class KnownPlaces(unittest.TestCase):
    """Every result to the last digit."""

    def check(self, name, rows, count):
        calls = [(name, *row[:-count]) for row in rows]
        got = ask_each(calls, ("load", CATALOGUE))
        for row, result in zip(rows, got, strict=True):
            self.assertEqual(result, list(row[-count:]), (name, row))

    def test_place(self):
        self.check("place", PLACES, 2)

    def test_ecliptic(self):
        self.check("ecliptic", ECLIPTICS, 2)

    def test_horizon(self):
        self.check("horizon", HORIZONS, 2)

    def test_separation(self):
        self.check("separation", SEPARATIONS, 1)


class Directions(unittest.TestCase):
    """Directions in each row of the document's table, and on the axes."""

    def place(self, right_ascension, declination="+00:00:00.000"):
        text = line("x", right_ascension, declination)
        return ask(("load", text), ("place", 0, 0))[1]

    def test_x_and_y_are_0(self):
        for right_ascension in ("00:00:00.000", "01:02:03.004", "12:00:00.000", "23:59:59.999"):
            self.assertEqual(self.place(right_ascension, "+90:00:00.000"), [0, QUARTER])
            self.assertEqual(self.place(right_ascension, "-90:00:00.000"), [0, -QUARTER])

    def test_axes(self):
        self.assertEqual(self.place("00:00:00.000"), [0, 0])
        self.assertEqual(self.place("06:00:00.000"), [QUARTER, 0])
        self.assertEqual(self.place("12:00:00.000"), [2 * QUARTER, 0])
        self.assertEqual(self.place("18:00:00.000"), [3 * QUARTER, 0])

    def test_between_the_axes(self):
        for hours in (3, 9, 15, 21):
            longitude, latitude = self.place(f"{hours:02}:00:00.000")
            self.assertLessEqual(abs(longitude - hours * 54000000), 1)
            self.assertEqual(latitude, 0)

    def test_beside_the_axes(self):
        for hours in (0, 6, 12, 18):
            near = [self.place(f"{hours:02}:00:00.001"), self.place(f"{(hours + 23) % 24:02}:59:59.999")]
            for (longitude, latitude), want in zip(near, (15, -15), strict=True):
                self.assertLessEqual(abs(longitude - (hours * 54000000 + want) % TURN), 1)
                self.assertEqual(latitude, 0)

    def test_azimuths_on_the_axes(self):
        text = "\n".join([
            line("zenith", "00:00:00.000"), line("east", "06:00:00.000"),
            line("nadir", "12:00:00.000"), line("west", "18:00:00.000"),
            line("north", "01:00:00.000", "+90:00:00.000"), line("south", "01:00:00.000", "-90:00:00.000"),
        ])
        got = ask(("load", text), *[("horizon", i, 0, ZERO_SITE, 0) for i in range(6)])[1:]
        self.assertEqual(got, [[0, QUARTER], [QUARTER, 0], [0, -QUARTER], [3 * QUARTER, 0],
                               [0, 0], [2 * QUARTER, 0]])

    def test_azimuths_in_the_zenith(self):
        """A last digit that is rounded down decides where north is."""
        rows = [("14:10:33.703", "-29:14:18.281", -244152681, -105258281, [648000000, 324000000]),
                ("07:39:15.369", "+58:59:00.494", -596327691, 212340494, [648000000, 324000000]),
                ("22:15:08.522", "-18:35:12.525", 191969604, -66912525, [810000000, 323999999]),
                ("18:13:03.370", "+70:52:23.791", -25907676, 255143791, [810000000, 324000000])]
        for right_ascension, declination, longitude, latitude, want in rows:
            text = line("x", right_ascension, declination)
            got = ask(("load", text), ("horizon", 0, 0, longitude, latitude))[1]
            self.assertEqual(got, want, right_ascension)

    def test_ecliptic_of_the_equinoxes(self):
        self.assertEqual(ask(("load", ONE_STAR), ("ecliptic", 0, 0))[1], [0, 0])
        text = line("x", "12:00:00.000")
        self.assertEqual(ask(("load", text), ("ecliptic", 0, 0))[1], [2 * QUARTER, 0])


class Ranges(unittest.TestCase):
    """The first and the last numbers that are allowed, and the next ones."""

    def good(self, *call):
        result = ask(("load", CATALOGUE), call)[1]
        self.assertGreater(result[-1], -QUARTER - 1)
        self.assertNotEqual(result, [-2], call)
        self.assertEqual(len(result), 1 if call[0] == "separation" else 2)

    def wrong(self, *call):
        self.assertEqual(ask(("load", CATALOGUE), call)[1], [-2], call)

    def test_moments(self):
        for t in (LAST, -LAST, LAST - 1, 1 - LAST):
            self.good("place", 0, t)
            self.good("horizon", 0, t, 0, 0)
            self.good("ecliptic", 0, t)
            self.good("separation", 0, 1, t)
        for t in WRONG_MOMENTS:
            self.wrong("place", 0, t)
            self.wrong("horizon", 0, t, 0, 0)
            self.wrong("ecliptic", 0, t)
            self.wrong("separation", 0, 1, t)
            self.wrong("separation", 1, 1, t)

    def test_longitudes_of_sites(self):
        for longitude in (648000000, -648000000, 647999999):
            self.good("horizon", 0, 0, longitude, 0)
        for longitude in (648000001, -648000001, 10**18, -10**18):
            self.wrong("horizon", 0, 0, longitude, 0)

    def test_latitudes_of_sites(self):
        for latitude in (324000000, -324000000, 323999999):
            self.good("horizon", 0, 0, 0, latitude)
        for latitude in (324000001, -324000001, 648000000, 10**18, -10**18):
            self.wrong("horizon", 0, 0, 0, latitude)

    def test_one_number_out_of_range_is_enough(self):
        self.wrong("horizon", 0, LAST + 1, 648000001, 324000001)
        self.wrong("horizon", 0, 0, 648000001, -324000001)
        self.wrong("horizon", 0, LAST + 1, 0, -324000001)

    def test_numbers_of_stars(self):
        for i in (1, 2, 60, 10**18):
            got = ask(("load", ONE_STAR), ("place", i, 0), ("horizon", i, 0, 0, 0), ("ecliptic", i, 0),
                      ("separation", i, 0, 0), ("separation", 0, i, 0), ("separation", i, i, 0))
            self.assertEqual(got, [[1]] + [[-3]] * 6)

    def test_missing_star_comes_before_the_range(self):
        for t in WRONG_MOMENTS:
            got = ask(("load", ONE_STAR), ("place", 1, t), ("horizon", 1, t, 0, 0), ("ecliptic", 1, t),
                      ("separation", 1, 0, t), ("separation", 0, 1, t), ("separation", 1, 1, t))
            self.assertEqual(got, [[1]] + [[-3]] * 6)
        got = ask(("load", ONE_STAR), ("horizon", 1, 0, 648000001, 0), ("horizon", 1, 0, 0, 324000001))
        self.assertEqual(got, [[1], [-3], [-3]])

    def test_errors_change_nothing(self):
        got = ask(("load", CATALOGUE), ("place", 0, LAST + 1), ("horizon", 99, 0, 0, 0), ("ecliptic", 0, -LAST - 1),
                  ("separation", 0, 99, 0), ("find", "near-3"), ("separation", 3, 3, 5))
        self.assertEqual(got[1:], [[-2], [-3], [-2], [-3], [17], [0]])


class Separations(unittest.TestCase):
    """Requirement 6: the order is no matter; 0 for the same; up to half a turn."""

    def test_order_and_range(self):
        calls = []
        for t in (0, -LAST, LAST):
            for i in range(0, 18, 2):
                for j in range(18):
                    calls.append(("separation", i, j, t))
                    calls.append(("separation", j, i, t))
        got = ask_each(calls, ("load", CATALOGUE))
        for at in range(0, len(got), 2):
            self.assertEqual(got[at], got[at + 1], calls[at])
            self.assertTrue(0 <= got[at][0] <= 648000000, calls[at])

    def test_same_star(self):
        for t in (0, 1, -LAST, LAST, 762436800):
            calls = [("separation", i, i, t) for i in range(18)]
            self.assertEqual(ask_each(calls, ("load", CATALOGUE)), [[0]] * 18)

    def test_two_stars_at_one_place(self):
        text = line("a", "05:06:07.008", "+12:13:14.015") + "\n" + line("b", "05:06:07.008", "+12:13:14.015", "9")
        self.assertEqual(ask(("load", text), ("separation", 0, 1, 12345))[1], [0])


def turned(vector, axis, angle):
    """The vector turned round one of the axes, in floating point."""
    c, s = math.cos(angle), math.sin(angle)
    first, second = [k for k in range(3) if k != axis]
    if axis == 1:
        s = -s
    result = list(vector)
    result[first] = c * vector[first] - s * vector[second]
    result[second] = s * vector[first] + c * vector[second]
    return result


def in_radians(angle):
    return angle * math.pi / 648000000


class FloatingPoint(unittest.TestCase):
    """The results are what trigonometry says, but for the last digits."""

    STARS = [("02:31:49.094", "+59:15:50.792", "441", "-118"), ("06:45:08.917", "-16:42:58.017", "-546", "-1223"),
             ("14:39:36.494", "-60:50:02.373", "-36798", "4816"), ("19:50:46.999", "+08:52:05.956", "5363", "3855")]
    TEXT = "\n".join(line(f"s{i}", s[0], s[1], "1", s[2], s[3]) for i, s in enumerate(STARS))
    MOMENTS = (0, 86400, -3155760000, 3155760000, 762436800, -LAST, LAST)

    def vector(self, i, t):
        right_ascension, declination, _, *motions = ask(("load", self.TEXT), ("star", i))[1][:5]
        years = t / 31557600
        longitude = in_radians(right_ascension + motions[0] * years)
        latitude = in_radians(declination + motions[1] * years)
        vector = [math.cos(latitude) * math.cos(longitude), math.cos(latitude) * math.sin(longitude),
                  math.sin(latitude)]
        p = in_radians(2306218 * years / 100)
        n = in_radians(2004311 * years / 100)
        return turned(turned(turned(vector, 2, p), 1, -n), 2, p)

    def near(self, got, vector):
        x, y, z = vector
        distance = (got[0] - math.atan2(y, x) * 648000000 / math.pi) % TURN
        self.assertLess(min(distance, TURN - distance), 20)
        self.assertLess(abs(got[1] - math.asin(z) * 648000000 / math.pi), 20)

    def test_all(self):
        for i in range(len(self.STARS)):
            for t in self.MOMENTS:
                vector = self.vector(i, t)
                got = ask(("load", self.TEXT), ("place", i, t), ("ecliptic", i, t),
                          ("horizon", i, t, 123456789, 98765432))
                self.near(got[1], vector)
                self.near(got[2], turned(vector, 0, -in_radians(84381448)))
                sidereal = in_radians((1009658226 + t * 1299548330518644 // 86400000000) % TURN)
                x, y, z = turned(vector, 2, -sidereal - in_radians(123456789))
                c, s = math.cos(in_radians(98765432)), math.sin(in_radians(98765432))
                self.near(got[3], [z * c - x * s, y, x * c + z * s])

    def test_separations(self):
        for i in range(len(self.STARS)):
            for j in range(i):
                for t in self.MOMENTS:
                    chord = math.dist(self.vector(i, t), self.vector(j, t))
                    want = 2 * math.asin(chord / 2) * 648000000 / math.pi
                    got = ask(("load", self.TEXT), ("separation", i, j, t))[1][0]
                    self.assertLess(abs(got - want), 20)


if __name__ == "__main__":
    unittest.main()
