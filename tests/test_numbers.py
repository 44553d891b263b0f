"""sines, angles and sidereal: results to the last digit, and ranges."""

import random
import unittest

from tests import model
from tests.support import LAST, WRONG_MOMENTS, ask, ask_each

E = 10**18
Q = 324000000
TURN = 4 * Q


def sines(*angles):
    """The sine and the cosine of each angle; the 0 ahead of them is checked."""
    pairs = []
    for leading, sine, cosine in ask_each([("sines", a) for a in angles]):
        if leading != 0:
            raise AssertionError(leading)
        pairs.append((sine, cosine))
    return pairs


class Sines(unittest.TestCase):
    def test_form(self):
        self.assertEqual(ask(("sines", 0), ("sines", Q)), [[0, 0, E], [0, E, 0]])
        self.assertEqual(ask(("sines", 2 * Q), ("sines", 3 * Q)), [[0, 0, -E], [0, -E, 0]])

    def test_quarters_of_many_turns(self):
        wanted = [(0, E), (E, 0), (0, -E), (-E, 0)]
        for k in range(-9, 10):
            self.assertEqual(sines(k * Q, k * Q + 1000 * TURN), [wanted[k % 4]] * 2)

    def test_known(self):
        known = {
            1: (4848136811, 999999999999999989),
            -1: (-4848136811, 999999999999999989),
            Q - 1: (999999999999999989, 4848136811),
            Q + 1: (999999999999999989, -4848136811),
            108000000: (500000000000000000, 866025403784438646),
            162000000: (707106781186547524, 707106781186547525),
            -123456789: (-563433084443196413, 826161702909803185),
            500000000: (657521368569063656, -753435896327660744),
        }
        self.assertEqual(sines(*known), list(known.values()))

    def test_half_quarters_and_beside_them(self):
        angles = [k * Q // 2 + d for k in range(-17, 18) for d in (-1, 0, 1)]
        self.assertEqual(sines(*angles), [model.sine_and_cosine(a) for a in angles])

    def test_half_quarter_has_the_two_series_apart(self):
        """At Q / 2 the sine is S(Q / 2), one above it C(Q / 2 - 1)."""
        self.assertEqual(sines(Q // 2)[0], (model.series(Q // 2, 2), model.series(Q // 2, 1)))
        self.assertEqual(sines(Q // 2 + 1)[0], (model.series(Q // 2 - 1, 1), model.series(Q // 2 - 1, 2)))

    def test_largest_angles(self):
        angles = [E, -E, E - 1, 1 - E]
        self.assertEqual(sines(*angles), [model.sine_and_cosine(a) for a in angles])
        self.assertEqual(sines(E)[0], (990800403364845309, -135331299750131098))
        self.assertEqual(sines(E % TURN, -E % TURN), sines(E, -E))

    def test_any_angles(self):
        source = random.Random(11)
        angles = [source.randrange(-E, E + 1) for _ in range(200)]
        angles += [source.randrange(-TURN, TURN) for _ in range(600)]
        self.assertEqual(sines(*angles), [model.sine_and_cosine(a) for a in angles])

    def test_squares_shift_and_sums(self):
        source = random.Random(12)
        for _ in range(200):
            a, b = source.randrange(-E // 4, E // 4), source.randrange(TURN)
            (sin_a, cos_a), (sin_b, cos_b), (sin_c, _), (sin_d, _) = sines(a, b, a + b, a + Q)
            self.assertLessEqual(abs(sin_a**2 + cos_a**2 - E * E), 100 * E)
            self.assertEqual(sin_d, cos_a)
            self.assertLessEqual(abs(sin_c - (sin_a * cos_b + cos_a * sin_b) // E), 1000)


class Angles(unittest.TestCase):
    def check(self, known):
        got = ask_each([("angles", x, y) for x, y in known])
        for point, result in zip(known, got, strict=True):
            self.assertEqual(result, list(known[point]), point)

    def test_examples(self):
        self.check({(0, 0): (0, 0), (0, E): (Q, Q)})

    def test_axes(self):
        self.check({
            (1, 0): (0, 0), (E, 0): (0, 0),
            (0, 1): (Q, 0), (0, E - 1): (Q, Q - 1), (0, E): (Q, Q),
            (-1, 0): (2 * Q, 0), (-E, 0): (2 * Q, 0),
            (0, -1): (3 * Q, 0), (0, 1 - E): (3 * Q, 1 - Q), (0, -E): (3 * Q, -Q),
        })

    def test_beside_the_axes(self):
        self.check({
            (E, 1): (0, 0), (E, 4848136811): (0, 1), (E, 4848136812): (1, 1), (1, E): (Q - 1, Q),
            (-1, E): (Q, Q), (-E, 1): (2 * Q - 1, 0),
            (-E, -1): (2 * Q, 0), (-1, -E): (3 * Q - 1, -Q),
            (1, -E): (3 * Q, -Q), (E, -1): (TURN - 1, 0),
        })

    def test_rows_of_the_table(self):
        half = 500000000000000000
        root = 866025403784438646
        self.check({
            (E, E): (162000000, Q), (root, half): (108000000, 108000000),
            (-E, E): (486000000, Q), (-half, root): (432000000, 216000000),
            (-E, -E): (810000000, -Q), (-root, -half): (756000000, -108000000),
            (E, -E): (1134000000, -Q), (half, -root): (1080000000, -216000000),
        })

    def test_arc_sine_is_of_y_and_negated(self):
        self.check({
            (E, 4848136810): (0, 0), (0, 4848136810): (Q, 0), (0, 4848136811): (Q, 1),
            (0, -4848136810): (3 * Q, 0), (0, -4848136811): (3 * Q, -1),
        })

    def test_as_the_formulas_say(self):
        source = random.Random(13)
        points = [(x, y) for x in (-E, -3, -1, 0, 1, 3, E) for y in (-E, -3, -1, 0, 1, 3, E)]
        for bound in (E, 10**9, 5):
            points += [(source.randrange(-bound, bound + 1), source.randrange(-bound, bound + 1)) for _ in range(80)]
        self.check({(x, y): (model.direction(x, y), model.arcsin(y)) for x, y in points})

    def test_range(self):
        for x, y in ((E, E), (-E, -E), (E, -E), (-E, E)):
            self.assertEqual(len(ask(("angles", x, y))[0]), 2)
        for x, y in ((E + 1, 0), (-E - 1, 0), (0, E + 1), (0, -E - 1), (E + 1, E + 1), (-E - 1, E), (E, -E - 1)):
            self.assertEqual(ask(("angles", x, y)), [[-2]], (x, y))

    def test_direction_of_cosine_and_sine(self):
        source = random.Random(14)
        angles = [source.randrange(TURN) for _ in range(200)] + [k * Q + d for k in range(4) for d in (0, 1, 2, Q - 1)]
        points = [(cosine, sine) for sine, cosine in sines(*angles)]
        for a, (direction, _) in zip(angles, ask_each([("angles", x, y) for x, y in points]), strict=True):
            away = (direction - a) % TURN
            self.assertLessEqual(min(away, TURN - away), 2, a)

    def test_arc_sine_is_the_last_angle(self):
        source = random.Random(15)
        values = [source.randrange(sines(Q + 1)[0][0]) for _ in range(100)]
        for v in values:
            [[_, a]] = ask(("angles", 1, v))
            (below, _), (above, _) = sines(a, a + 1)
            self.assertTrue(below <= v < above, v)


class SiderealTimes(unittest.TestCase):
    def test_known(self):
        known = {0: 1009658226, 1: 1009673267, -1: 1009643184, 86400: 1013206556, 762436800: 569900887,
                 LAST: 528060846, -LAST: 195255605}
        for t, angle in known.items():
            self.assertEqual(ask(("sidereal", t)), [[angle]], t)

    def test_formula_and_range_of_angles(self):
        source = random.Random(16)
        moments = [source.randrange(-LAST, LAST + 1) for _ in range(400)] + [LAST - 1, 1 - LAST]
        for t, result in zip(moments, ask_each([("sidereal", t) for t in moments]), strict=True):
            self.assertEqual(result, [(1009658226 + t * 1299548330518644 // 86400000000) % TURN], t)
            self.assertTrue(0 <= result[0] < TURN)

    def test_moments_out_of_range(self):
        for t in WRONG_MOMENTS:
            self.assertEqual(ask(("sidereal", t)), [[-2]], t)


if __name__ == "__main__":
    unittest.main()
