"""The interface: calls in, answers out, one session for each list."""

import unittest

from starplaces.atlas import answers
from tests import model
from tests.support import ONE_STAR, OPERATIONS, as_bytes, ask, ask_last, flat, line

VEGA = "# one star\nvega 18:36:56.336 +38:47:01.280 0.03 200 286"
VEGA_OUT = "vega 18:36:56.336 +38:47:01.280 0.030 200 286\n"
VEGA_STAR = [1005245040, 139621280, 30, 200, 286, 4, 118, 101, 103, 97]

# Each of the fifteen operations once, and what it answers.
EACH = [
    ("load", VEGA),
    ("star", 0),
    ("find", "vega"),
    ("export",),
    ("place", 0, 762436800),
    ("horizon", 0, 762436800, 48000000, 187000000),
    ("ecliptic", 0, 762436800),
    ("separation", 0, 0, 762436800),
    ("cone", 1005980108, 139706757, 10, 30, 762436800),
    ("match", 0, 762436800, "# a\n\n" + line("b") + "\n" + VEGA),
    ("date", 762436800),
    ("moment", 1999, 12, 31, 86399),
    ("sidereal", 762436800),
    ("sines", -123456789),
    ("angles", -5, -10**18),
]
EACH_ANSWERED = [
    [1],
    VEGA_STAR,
    [0],
    [46] + as_bytes(VEGA_OUT),
    [1005980108, 139706757],
    [188203267, 73014052],
    [1028362054, 222244922],
    [0],
    [1, 0, 0],
    [1, 0, 1, 0],
    [2024, 2, 29, 0],
    [0, -43201],
    [569900887],
    [0, -563433084443196413, 826161702909803185],
    [971999999, -324000000],
]


class Examples(unittest.TestCase):
    """The rows of the document's examples."""

    def test_first_table_in_one_session(self):
        got = ask(
            ("load", VEGA),
            ("star", 0), ("star", 1), ("find", "vega"),
            ("export",),
            ("separation", 0, 0, 0),
            ("load", "x 24:00:00.000 +00:00:00.000 1 0 0"),
            ("load", "x 00:00:00.000 +90:00:00.001 1 0 0"),
            ("load", "\nx 00:00:00.000"),
            ("load", "x 00:00:00.000 +00:00:00.000 1. 0 0"),
            ("date", 0), ("date", -1), ("date", 10000000001),
            ("moment", 2000, 1, 1, 43200), ("moment", 2024, 2, 29, 0), ("moment", 2023, 2, 29, 0),
            ("date", 762436800), ("sidereal", 0),
            ("sines", 0), ("sines", 324000000),
            ("angles", 0, 0), ("angles", 0, 10**18),
        )
        self.assertEqual(got, [
            [1],
            VEGA_STAR, [-3], [0],
            [46] + as_bytes(VEGA_OUT),
            [0],
            [-13, 1], [-14, 1],
            [-11, 2], [-15, 1],
            [2000, 1, 1, 43200], [2000, 1, 1, 43199], [-2],
            [0, 0], [0, 762436800], [-2],
            [2024, 2, 29, 0], [1009658226],
            [0, 0, 10**18], [0, 10**18, 0],
            [0, 0], [324000000, 324000000],
        ])

    def test_second_table_in_one_session(self):
        got = ask(("load", ONE_STAR), ("place", 0, 0), ("ecliptic", 0, 0),
                  ("cone", 0, 0, 0, 1000, 0), ("cone", 0, 0, 0, 999, 0))
        self.assertEqual(got, [[1], [0, 0], [0, 0], [1, 0, 0], [0]])


class FormOfAnswers(unittest.TestCase):
    """One flat list of whole numbers, each answer behind its count."""

    def test_flat_list(self):
        calls = [0, 34] + as_bytes(ONE_STAR) + [1, 0, 1, 1, 2, 1, 97, 2, 0, 4, 0, 0, 7, 0, 0, 0]
        want = [1, 1, 7, 0, 0, 1000, 0, 0, 1, 97, 1, -3, 1, 0, 1, -3, 2, 0, 0, 1, 0]
        self.assertEqual(answers(calls), want)

    def test_flat_list_of_the_other_calls(self):
        star = as_bytes(ONE_STAR)
        calls = [0, 34] + star + [8, 0, 0, 0, 1000, 0, 9, 0, 0, 34] + star + [9, -1, 0, 0]
        calls += [10, -1, 11, 2000, 1, 1, 0, 12, 0, 13, -324000000, 14, 0, -1]
        want = [1, 1, 3, 1, 0, 0, 4, 1, 0, 0, 0, 1, 0, 4, 2000, 1, 1, 43199, 2, 0, -43200, 1, 1009658226]
        want += [3, 0, -10**18, 0, 2, 972000000, 0]
        self.assertEqual(answers(calls), want)

    def test_error_of_a_text_has_two_numbers(self):
        self.assertEqual(answers([0, 2, 10, 120]), [2, -11, 2])
        self.assertEqual(answers([9, 0, 0, 2, 10, 120]), [2, -11, 2])

    def test_other_errors_have_one_number(self):
        self.assertEqual(answers([0, 1, 9]), [1, -1])
        self.assertEqual(answers([4, 0, 0]), [1, -3])
        self.assertEqual(answers([9, 0, 0, 1, 9, 9, 0, 10**18, 0]), [1, -1, 1, -2])
        self.assertEqual(answers([8, 0, 0, -1, 0, 0, 10, 10**18, 11, 0, 0, 0, 0, 12, -10**18]), [1, -2] * 4)
        self.assertEqual(answers(flat([("load", ONE_STAR), ("place", 0, 10**10 + 1)])), [1, 1, 1, -2])

    def test_export_counts_its_length_too(self):
        self.assertEqual(answers([3]), [1, 0])
        self.assertEqual(answers(flat([("load", VEGA), ("export",)]))[2:4], [47, 46])

    def test_whole_numbers_alone(self):
        calls = EACH + [("star", 1), ("place", 0, 10**18), ("load", "x"), ("match", 0, 0, "x")]
        results = answers(flat(calls))
        self.assertIs(type(results), list)
        for number in results:
            self.assertIs(type(number), int)

    def test_forty_calls(self):
        calls = [("load", ONE_STAR)] + [("place", 0, 0)] * 39
        self.assertEqual(ask(*calls), [[1]] + [[0, 0]] * 39)
        calls = [("load", ONE_STAR)] + [("cone", 0, 0, 0, 1000, 0)] * 39
        self.assertEqual(ask(*calls), [[1]] + [[1, 0, 0]] * 39)
        calls = [("sines", 0), ("date", 0), ("moment", 2000, 1, 1, 43200), ("angles", 1, 0)] * 10
        self.assertEqual(ask(*calls), [[0, 0, 10**18], [2000, 1, 1, 43200], [0, 0], [0, 0]] * 10)

    def test_largest_request(self):
        """Forty calls, four of them matches, the catalogues of 60 stars, 17000 numbers at most."""
        stars = model.some_stars(60, 71)
        text = model.text(stars)
        calls = [("load", text)] + [("match", 0, 0, text)] * 4
        calls += [("cone", 0, 0, 648000000, 99999, t) for t in range(35)]
        self.assertLessEqual(len(flat(calls)), 17000)
        got = ask(*calls)
        self.assertEqual(got[:5], [[60]] + [[60] + [number for i in range(60) for number in (i, i, 0)]] * 4)
        for result in got[5:]:
            self.assertEqual((len(result), result[0]), (121, 60))
            self.assertEqual(sorted(result[1::2]), list(range(60)))
            self.assertEqual(result[2::2], sorted(result[2::2]))

    def test_all_fifteen_calls_in_one_list(self):
        self.assertEqual(ask(*EACH), EACH_ANSWERED)
        self.assertEqual({call[0] for call in EACH}, set(OPERATIONS))

    def test_in_any_order(self):
        """Once the catalogue is there, the order of the others is no matter."""
        rest = list(zip(EACH, EACH_ANSWERED, strict=True))[1:]
        for turn in range(len(rest)):
            order = rest[turn:] + rest[:turn]
            for pairs in (order, order[::-1]):
                got = ask(EACH[0], *[call for call, _ in pairs])
                self.assertEqual(got[1:], [result for _, result in pairs])

    def test_texts_with_bytes_that_look_like_calls(self):
        self.assertEqual(ask(("load", [3, 3, 3]), ("find", [0, 1, 2, 3, 7]), ("find", []), ("star", 0)),
                         [[-1], [-3], [-3], [-3]])
        self.assertEqual(ask(("match", 9, 9, [9, 9, 9, 9]), ("match", 0, 0, []), ("sidereal", 0)),
                         [[-1], [0], [1009658226]])

    def test_long_rows(self):
        self.assertEqual(ask(("load", " " * 6100), ("find", [97] * 6100), ("load", [300] * 1000)),
                         [[-1], [-3], [-1]])
        self.assertEqual(ask(("match", 0, 0, " " * 6100), ("match", 0, 0, " " * 6000), ("match", 0, 0, [300] * 1000)),
                         [[-1], [0], [-1]])


class Sessions(unittest.TestCase):
    """A session is empty at first, and nothing is kept behind its end."""

    def test_empty_at_first(self):
        got = ask(("star", 0), ("find", "a"), ("export",), ("place", 0, 0), ("horizon", 0, 0, 0, 0),
                  ("ecliptic", 0, 0), ("separation", 0, 0, 0), ("cone", 0, 0, 648000000, 99999, 0),
                  ("match", 648000000, 0, ONE_STAR))
        self.assertEqual(got, [[-3], [-3], [0], [-3], [-3], [-3], [-3], [0], [0]])

    def test_nothing_kept_from_one_list_to_the_next(self):
        self.assertEqual(ask(("load", VEGA), ("star", 0)), [[1], VEGA_STAR])
        self.assertEqual(ask(("star", 0), ("find", "vega"), ("export",)), [[-3], [-3], [0]])
        self.assertEqual(ask(("load", ONE_STAR), ("find", "vega")), [[1], [-3]])
        self.assertEqual(ask(("load", VEGA), ("match", 0, 0, VEGA)), [[1], [1, 0, 0, 0]])
        self.assertEqual(ask(("match", 0, 0, VEGA), ("cone", 0, 0, 648000000, 99999, 0)), [[0], [0]])

    def test_same_list_same_answers(self):
        calls = flat([("load", VEGA), ("place", 0, 762436800), ("export",), ("load", "x"), ("star", 0)])
        self.assertEqual(answers(calls), answers(calls))
        self.assertEqual(answers(flat(EACH)), answers(flat(EACH)))

    def test_calls_in_order(self):
        got = ask(("star", 0), ("load", VEGA), ("find", "vega"), ("load", ONE_STAR), ("find", "vega"), ("find", "a"))
        self.assertEqual(got, [[-3], [1], [0], [1], [-3], [0]])

    def test_handed_in_stays(self):
        texts = [VEGA, line("b") + "\n" + line("b"), "x y", [9], ONE_STAR]
        for text in texts:
            calls = flat([("load", text), ("match", 0, 0, text)] + EACH)
            before = list(calls)
            answers(calls)
            self.assertEqual(calls, before)

    def test_handed_in_is_not_written_to(self):
        class ReadOnly(list):
            def refuse(self, *given, **named):
                raise AssertionError("the calls are written to")

            __setitem__ = __delitem__ = __iadd__ = __imul__ = refuse
            append = extend = insert = pop = remove = clear = sort = reverse = refuse

        calls = flat(EACH)
        self.assertEqual(answers(ReadOnly(calls)), answers(calls))

    def test_answers_are_not_shared_with_the_catalogue(self):
        calls = flat([("load", VEGA), ("star", 0), ("star", 0), ("export",), ("export",)])
        first = answers(calls)
        self.assertEqual(first[2:13], first[13:24])
        for at in range(len(first)):
            first[at] = -99
        self.assertEqual(ask(("load", VEGA), ("star", 0))[1], VEGA_STAR)


class StarAndFind(unittest.TestCase):
    """star and find: what the catalogue tells of a star, and its number."""

    CATALOGUE = "\n".join([
        line("abc", "01:02:03.004", "-05:06:07.008", "-1.5", "-12", "-00099"),
        line("abcd", "23:59:59.999", "+90:00:00.000", "99.999", "99999", "-99999"),
        line("a-1", "00:00:00.001", "-90:00:00.000", "-99.999", "-99999", "99999"),
    ])

    def test_star(self):
        got = ask(("load", self.CATALOGUE), ("star", 0), ("star", 1), ("star", 2))
        self.assertEqual(got, [
            [3],
            [55845060, -18367008, -1500, -12, -99, 3, 97, 98, 99],
            [1295999985, 324000000, 99999, 99999, -99999, 4, 97, 98, 99, 100],
            [15, -324000000, -99999, -99999, 99999, 3, 97, 45, 49],
        ])

    def test_no_such_star(self):
        for i in (3, 4, 59, 60, 10**18):
            self.assertEqual(ask_last(("load", self.CATALOGUE), ("star", i)), [-3])

    def test_find(self):
        got = ask(("load", self.CATALOGUE), ("find", "abc"), ("find", "abcd"), ("find", "a-1"))
        self.assertEqual(got, [[3], [0], [1], [2]])

    def test_no_star_with_the_name(self):
        for name in ("", "a", "ab", "abcde", "ABC", "abc ", " abc", "abc\n", "a-2", "1", "bc", "a" * 6100,
                     [300], [97, 98, 99, 0], [97, 98, 299], [0, 0, 0]):
            self.assertEqual(ask_last(("load", self.CATALOGUE), ("find", name)), [-3], name)

    def test_find_counts_stars_not_lines(self):
        text = "# abc\n\n" + line("b") + "\n \n#\n" + line("c") + "\n"
        self.assertEqual(ask(("load", text), ("find", "b"), ("find", "c"), ("star", 2)), [[2], [0], [1], [-3]])


if __name__ == "__main__":
    unittest.main()
