"""match: which stars match, in which order, and the errors and theirs."""

import random
import unittest

from tests import model
from tests.known_places import CATALOGUE
from tests.support import (
    LAST,
    ONE_STAR,
    WRONG,
    WRONG_MOMENTS,
    as_bytes,
    ask,
    ask_last,
    declinations,
    line,
    many_lines,
)

Q = 324000000
ALL = 2 * Q
WIDE = 10**18


def match(text, tolerance, t, other):
    """The answer to one match, in a session that holds the stars of a text."""
    return ask_last(("load", text), ("match", tolerance, t, other))


def triples(result):
    """The matches of an answer, one by one, once its count is checked."""
    count, *numbers = result
    if len(numbers) != 3 * count:
        raise AssertionError(result)
    return [tuple(numbers[at:at + 3]) for at in range(0, len(numbers), 3)]


class Matches(unittest.TestCase):
    def test_a_catalogue_and_itself(self):
        text = model.text(model.some_stars(60, 50))
        want = [(i, i, 0) for i in range(60)]
        for tolerance in (0, ALL):
            for t in (0, LAST):
                self.assertEqual(triples(match(text, tolerance, t, text)), want)

    def test_names_and_magnitudes_do_not_matter(self):
        other = line("b", "06:00:00.000", magnitude="-9") + "\n" + line("c", magnitude="9")
        self.assertEqual(match(ONE_STAR + "\n" + line("b", "06:00:00.000"), 0, 0, other), [2, 0, 1, 0, 1, 0, 0])

    def test_in_the_order_of_the_catalogue(self):
        text = declinations(40000, 10000, 30000, 0, 20000)
        other = declinations(1, 10001, 20001, 30001, 40001)
        self.assertEqual(triples(match(text, 9, 0, other)),
                         [(0, 4, 0), (1, 1, 0), (2, 3, 0), (3, 0, 0), (4, 2, 0)])

    def test_not_every_star_has_one(self):
        text = declinations(0, 20000, 50000)
        self.assertEqual(match(text, ALL, 0, declinations(49990)), [1, 2, 0, 10])
        self.assertEqual(match(text, ALL, 0, declinations(-10, -30000)), [1, 0, 0, 10])
        self.assertEqual(match(declinations(20010), ALL, 0, text), [1, 0, 1, 10])

    def test_one_sided(self):
        """10's nearest is 4, whose own nearest is 0."""
        self.assertEqual(match(declinations(0, 10000), ALL, 0, declinations(4000)), [1, 0, 0, 3998])
        self.assertEqual(match(declinations(10000, 0), ALL, 0, declinations(4000)), [1, 1, 0, 3998])
        self.assertEqual(match(declinations(4000), ALL, 0, declinations(0, 10000)), [1, 0, 0, 3998])
        self.assertEqual(match(declinations(0, 10000), ALL, 0, declinations(4000, 16010)),
                         [1, 0, 0, 3998])
        self.assertEqual(match(declinations(0, 10000), ALL, 0, declinations(4000, 15000)),
                         [2, 0, 0, 3998, 1, 1, 4998])

    def test_nearest_is_beyond_the_tolerance(self):
        """A star that is near enough does not stand in for the nearest one."""
        self.assertEqual(match(declinations(0, 10000), 5000, 0, declinations(4000)), [1, 0, 0, 3998])
        self.assertEqual(match(declinations(0, 10000), 3997, 0, declinations(4000)), [0])

    def test_tolerance_just_met_and_just_missed(self):
        text, other = declinations(0), declinations(10)
        self.assertEqual(match(text, 10, 0, other), [1, 0, 0, 10])
        self.assertEqual(match(text, 9, 0, other), [0])
        self.assertEqual(match(text, 11, 0, other), [1, 0, 0, 10])
        self.assertEqual(match(text, 0, 0, text), [1, 0, 0, 0])
        t = 762436800
        for i, star in enumerate(CATALOGUE.splitlines()):
            [away] = ask_last(("load", CATALOGUE), ("separation", 0, i, t))
            vega = CATALOGUE.splitlines()[0]
            self.assertEqual(match(vega, away, t, star), [1, 0, 0, away])
            self.assertEqual(match(vega, away - 1, t, star), [0])

    def test_tolerances_of_any_size(self):
        text = declinations(0, 5000)
        for tolerance in (-1, -2, -10, -ALL, -WIDE):
            self.assertEqual(match(text, tolerance, 0, text), [0])
            self.assertEqual(match("", tolerance, 0, text), [0])
            self.assertEqual(match(text, tolerance, 0, ""), [0])
        for tolerance in (0, 1, ALL, ALL + 1, WIDE):
            self.assertEqual(match(text, tolerance, 0, text), [2, 0, 0, 0, 1, 1, 0])

    def test_empty_ones(self):
        for nothing in ("", "\n", "# none\n\n", "  "):
            self.assertEqual(ask(("match", ALL, 0, nothing)), [[0]])
            self.assertEqual(ask(("match", ALL, 0, CATALOGUE)), [[0]])
            self.assertEqual(match(CATALOGUE, ALL, 0, nothing), [0])
            self.assertEqual(match(nothing, ALL, 0, CATALOGUE), [0])

    def test_half_a_turn(self):
        far = line("far", "12:00:00.000")
        self.assertEqual(match(ONE_STAR, ALL, 0, far), [1, 0, 0, ALL])
        self.assertEqual(match(ONE_STAR, ALL - 1, 0, far), [0])
        self.assertEqual(match(ONE_STAR, ALL, 0, far + "\n" + line("too", "12:00:00.000")), [1, 0, 0, ALL])
        near = line("near", "12:00:00.001")
        self.assertEqual(match(ONE_STAR, ALL, 0, far + "\n" + near)[:3], [1, 0, 1])

    def test_places_of_the_moment(self):
        fast = line("fast", "03:00:00.000", "+20:00:00.000", "1", "50000", "-90000")
        slow = line("slow", "03:00:00.000", "+20:00:00.000")
        self.assertEqual(match(fast, 0, 0, slow), [1, 0, 0, 0])
        self.assertEqual(match(fast, 1000000, LAST, slow), [0])
        self.assertEqual(match(fast, 1000000, -LAST, slow), [0])
        self.assertEqual(match(fast, 0, LAST, slow + "\n" + fast), [1, 0, 1, 0])
        self.assertEqual(match(slow + "\n" + fast, 0, -LAST, fast), [1, 1, 0, 0])


class EquallyNear(unittest.TestCase):
    """Of several equally near ones the one with the smallest number."""

    def test_at_one_place(self):
        two, three = declinations(0, 0), declinations(5, 5, 5)
        self.assertEqual(match(declinations(0), ALL, 0, three), [1, 0, 0, 4])
        self.assertEqual(match(two, ALL, 0, declinations(0)), [1, 0, 0, 0])
        self.assertEqual(match(two, ALL, 0, three), [1, 0, 0, 4])
        self.assertEqual(match(three, ALL, 0, two), [1, 0, 0, 4])
        self.assertEqual(match(two, ALL, 0, two), [1, 0, 0, 0])

    def test_on_both_sides(self):
        self.assertEqual(match(declinations(0), ALL, 0, declinations(-600, 600)), [1, 0, 0, 600])
        self.assertEqual(match(declinations(0), ALL, 0, declinations(600, -600)), [1, 0, 0, 600])
        self.assertEqual(match(declinations(600, -600), ALL, 0, declinations(0)), [1, 0, 0, 600])
        self.assertEqual(match(declinations(-600, 600), ALL, 0, declinations(0, 0)), [1, 0, 0, 600])

    def test_behind_a_farther_one(self):
        self.assertEqual(match(declinations(0), ALL, 0, declinations(900, 600, -600, 600)), [1, 0, 1, 600])
        self.assertEqual(match(declinations(900, 600, -600, 600), ALL, 0, declinations(0)), [1, 1, 0, 600])

    def test_equal_separations_of_different_distances(self):
        """3 and 2 thousandths are both told as 2: the first one counts."""
        self.assertEqual(match(declinations(0), ALL, 0, declinations(3, 2)), [1, 0, 0, 2])
        self.assertEqual(match(declinations(0), ALL, 0, declinations(2, 3)), [1, 0, 0, 2])
        self.assertEqual(match(declinations(3, 2), ALL, 0, declinations(0)), [1, 0, 0, 2])
        self.assertEqual(match(declinations(0), ALL, 0, declinations(4, 3, 2)), [1, 0, 1, 2])
        self.assertEqual(match(declinations(4, 3, 2), ALL, 0, declinations(0)), [1, 1, 0, 2])
        self.assertEqual(match(declinations(0), ALL, 0, declinations(1, 0)), [1, 0, 0, 0])
        self.assertEqual(match(declinations(1, 0), 0, 0, declinations(0, 1)), [1, 0, 0, 0])

    def test_no_second_choice(self):
        """Two stars at one place have the same nearest star, and only one of them gets it."""
        self.assertEqual(match(declinations(0, 0), ALL, 0, declinations(0, 9000)), [1, 0, 0, 0])
        self.assertEqual(match(declinations(0, 9000), ALL, 0, declinations(0, 0)), [1, 0, 0, 0])

    def test_half_turns(self):
        poles = "\n".join(line(f"p{i}", declination="+90:00:00.000") for i in range(3))
        south = "\n".join(line(f"q{i}", declination="-90:00:00.000") for i in range(2))
        self.assertEqual(match(poles, ALL, 0, south), [1, 0, 0, ALL])


class Errors(unittest.TestCase):
    """-2; then -1; then -(10 + kind) and the line."""

    def wrong(self, want, *given):
        for first in ([], [("load", CATALOGUE)]):
            self.assertEqual(ask(*first, ("match", *given))[-1], want, given)

    def test_moments(self):
        for t in (LAST, LAST - 1, -LAST, 1 - LAST):
            self.assertEqual(match(ONE_STAR, 0, t, ONE_STAR), [1, 0, 0, 0])
        for t in WRONG_MOMENTS:
            self.wrong([-2], 0, t, ONE_STAR)
            self.wrong([-2], 0, t, "")

    def test_texts_that_are_not_allowed(self):
        self.assertEqual(match(ONE_STAR, 0, 0, ONE_STAR + " " * (6000 - len(ONE_STAR))), [1, 0, 0, 0])
        self.wrong([-1], 0, 0, ONE_STAR + " " * (6001 - len(ONE_STAR)))
        self.wrong([-1], 0, 0, "#" * 6001)
        self.wrong([-1], 0, 0, " " * 6100)
        for byte in (0, 9, 11, 13, 31, 127, 128, 255, 266, 300):
            self.wrong([-1], 0, 0, as_bytes(ONE_STAR + "\n#") + [byte])

    def test_each_kind_with_its_line(self):
        for kind, text in WRONG.items():
            self.wrong([-10 - kind, 2], 0, 0, text)
            self.wrong([-10 - kind, 2], -5, LAST, text)
        self.wrong([-18, 61], 0, 0, "\n".join(many_lines(61)))
        self.assertEqual(match(ONE_STAR, 0, 0, "\n".join(many_lines(60))), [1, 0, 0, 0])

    def test_moment_comes_before_the_text(self):
        for t in WRONG_MOMENTS:
            self.wrong([-2], 0, t, "#" * 6001)
            self.wrong([-2], 0, t, [9])
            for text in WRONG.values():
                self.wrong([-2], 0, t, text)
                self.wrong([-2], -1, t, as_bytes(text) + [300])

    def test_bytes_come_before_what_they_say(self):
        for text in WRONG.values():
            self.wrong([-1], 0, 0, as_bytes(text + "\n") + [127])
            self.wrong([-1], 0, 0, text + "\n" + " " * 6000)

    def test_first_error_of_a_text(self):
        self.wrong([-16, 1], 0, 0, line(motion="x") + "\nx")
        self.wrong([-12, 3], 0, 0, "# a\n\n" + line(name="X", motion="x"))

    def test_same_name_as_in_the_catalogue(self):
        self.assertEqual(match(ONE_STAR, 0, 0, ONE_STAR), [1, 0, 0, 0])


class TheCatalogueStays(unittest.TestCase):
    def test_behind_a_match(self):
        looks = [("export",), ("star", 0), ("star", 17), ("find", "near-3"), ("find", "new"), ("place", 2, 5),
                 ("cone", 0, 0, ALL, 99999, 0), ("match", ALL, 0, CATALOGUE)]
        before = ask(("load", CATALOGUE), *looks)
        others = ["", line("new"), CATALOGUE, "\n".join(many_lines(60)), [9], "#" * 6001,
                  *[line("new") + "\n" + text for text in WRONG.values()], "\n".join(many_lines(61))]
        for other in others:
            for t in (0, LAST, LAST + 1):
                got = ask(("load", CATALOGUE), ("match", ALL, t, other), *looks)
                self.assertEqual(got[:1] + got[2:], before)

    def test_an_empty_one_stays_empty(self):
        got = ask(("match", ALL, 0, CATALOGUE), ("export",), ("star", 0), ("match", ALL, 0, CATALOGUE))
        self.assertEqual(got, [[0], [0], [-3], [0]])

    def test_a_match_then_a_load(self):
        got = ask(("load", ONE_STAR), ("match", ALL, 0, CATALOGUE), ("load", CATALOGUE), ("match", ALL, 0, ONE_STAR))
        self.assertEqual(got, [[1], [1, 0, 4, 0], [18], [1, 4, 0, 0]])


class AsTheFormulasSay(unittest.TestCase):
    """Against the model, and requirement 11: the other direction gives the same pairs."""

    def check(self, stars, others, tolerance, t):
        text, other = model.text(stars), model.text(others)
        got = match(text, tolerance, t, other)
        self.assertEqual(got, model.match(stars, others, tolerance, t), (tolerance, t))
        back = match(other, tolerance, t, text)
        self.assertEqual(sorted((i, j, away) for j, i, away in triples(back)), triples(got))
        return got[0]

    def test_whole_sky(self):
        self.check(model.some_stars(20, 51), model.some_stars(30, 52), ALL, 0)
        self.check(model.some_stars(30, 53), model.some_stars(10, 54), 30000000, LAST)
        self.check(model.some_stars(15, 55), model.some_stars(15, 56), ALL, -LAST)

    def test_small_fields(self):
        """Many stars are equally near, or nearly so."""
        count = 0
        for seed in range(24):
            spread = (0, 1, 2, 20)[seed % 4]
            stars, others = model.some_stars(12, 60 + seed, spread), model.some_stars(10, 90 + seed, spread)
            count += self.check(stars, others, (0, 4, 50, ALL)[seed // 6], (0, 86400)[seed % 2])
        self.assertGreater(count, 24)

    def test_moved_stars(self):
        """Another catalogue of the same stars, each a little aside."""
        source = random.Random(57)
        stars = model.some_stars(25, 58)
        others = [(star[0], star[1], max(-Q, star[2] - source.randrange(20)), *star[3:]) for star in stars]
        source.shuffle(others)
        self.assertEqual(self.check(stars, others, 100, 762436800), 25)

    def test_far_sides(self):
        stars = [(f"s{i}", 15 * i, i - 3, 0, 0, 0) for i in range(7)]
        others = [(f"s{i}", ALL - 15 * (i % 3), 2 - i, 0, 0, 0) for i in range(6)]
        self.check(stars, others, ALL, 0)
        self.check(stars[:1], [("x", ALL, 3, 0, 0, 0), ("y", ALL, 0, 0, 0, 0)], ALL, 0)

    def test_four_matches_of_sixty_stars(self):
        text = "\n".join(line(f"s{i}", f"{i % 24:02}:00:00.000", f"+{i:02}:00:00.000") for i in range(60))
        other = "\n".join(line(f"s{i}", f"{(59 - i) % 24:02}:00:00.001", f"+{59 - i:02}:00:00.000") for i in range(60))
        want = [(i, 59 - i) for i in range(60)]
        got = ask(("load", text), *[("match", 20, 0, other)] * 4)
        self.assertEqual(got[0], [60])
        for result in got[1:]:
            self.assertEqual([pair[:2] for pair in triples(result)], want)
            self.assertEqual(result, got[1])


if __name__ == "__main__":
    unittest.main()
