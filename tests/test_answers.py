"""The interface: calls in, answers out, one session for each list."""

import unittest

from starplaces.atlas import answers
from tests.support import ONE_STAR, as_bytes, ask, ask_last, flat, line

VEGA = "# one star\nvega 18:36:56.336 +38:47:01.280 0.03 200 286"
VEGA_OUT = "vega 18:36:56.336 +38:47:01.280 0.030 200 286\n"
VEGA_STAR = [1005245040, 139621280, 30, 200, 286, 4, 118, 101, 103, 97]


class Examples(unittest.TestCase):
    """The rows of the document's examples."""

    def test_first_table_in_one_session(self):
        got = ask(
            ("load", VEGA),
            ("star", 0), ("star", 1), ("find", "vega"),
            ("export",),
            ("separation", 0, 0, 0),
            ("load", "x 24:00:00.000 +00:00:00.000 1 0 0"),
            ("load", "x 00:00:00.000 +90:00:00.001 1 0 0"),
            ("load", "\nx 00:00:00.000"),
            ("load", "x 00:00:00.000 +00:00:00.000 1. 0 0"),
        )
        self.assertEqual(got, [
            [1],
            VEGA_STAR, [-3], [0],
            [46] + as_bytes(VEGA_OUT),
            [0],
            [-13, 1], [-14, 1], [-11, 2], [-15, 1],
        ])

    def test_second_table_in_one_session(self):
        got = ask(("load", ONE_STAR), ("place", 0, 0), ("ecliptic", 0, 0))
        self.assertEqual(got, [[1], [0, 0], [0, 0]])


class FormOfAnswers(unittest.TestCase):
    """One flat list of whole numbers, each answer behind its count."""

    def test_flat_list(self):
        calls = [0, 34] + as_bytes(ONE_STAR) + [1, 0, 1, 1, 2, 1, 97, 2, 0, 4, 0, 0, 7, 0, 0, 0]
        want = [1, 1, 7, 0, 0, 1000, 0, 0, 1, 97, 1, -3, 1, 0, 1, -3, 2, 0, 0, 1, 0]
        self.assertEqual(answers(calls), want)

    def test_error_of_a_text_has_two_numbers(self):
        self.assertEqual(answers([0, 2, 10, 120]), [2, -11, 2])

    def test_other_errors_have_one_number(self):
        self.assertEqual(answers([0, 1, 9]), [1, -1])
        self.assertEqual(answers([4, 0, 0]), [1, -3])
        self.assertEqual(answers(flat([("load", ONE_STAR), ("place", 0, 10**10 + 1)])), [1, 1, 1, -2])

    def test_export_counts_its_length_too(self):
        self.assertEqual(answers([3]), [1, 0])
        self.assertEqual(answers(flat([("load", VEGA), ("export",)]))[2:4], [47, 46])

    def test_whole_numbers_alone(self):
        calls = [("load", VEGA), ("star", 0), ("find", "vega"), ("export",), ("place", 0, 5),
                 ("horizon", 0, 5, 6, 7), ("ecliptic", 0, 5), ("separation", 0, 0, 5),
                 ("star", 1), ("place", 0, 10**18), ("load", "x")]
        results = answers(flat(calls))
        self.assertIs(type(results), list)
        for number in results:
            self.assertIs(type(number), int)

    def test_forty_calls(self):
        calls = [("load", ONE_STAR)] + [("place", 0, 0)] * 39
        self.assertEqual(ask(*calls), [[1]] + [[0, 0]] * 39)

    def test_texts_with_bytes_that_look_like_calls(self):
        self.assertEqual(ask(("load", [3, 3, 3]), ("find", [0, 1, 2, 3, 7]), ("find", []), ("star", 0)),
                         [[-1], [-3], [-3], [-3]])

    def test_long_rows(self):
        self.assertEqual(ask(("load", " " * 6100), ("find", [97] * 6100), ("load", [300] * 1000)),
                         [[-1], [-3], [-1]])


class Sessions(unittest.TestCase):
    """A session is empty at first, and nothing is kept behind its end."""

    def test_empty_at_first(self):
        got = ask(("star", 0), ("find", "a"), ("export",), ("place", 0, 0), ("horizon", 0, 0, 0, 0),
                  ("ecliptic", 0, 0), ("separation", 0, 0, 0))
        self.assertEqual(got, [[-3], [-3], [0], [-3], [-3], [-3], [-3]])

    def test_nothing_kept_from_one_list_to_the_next(self):
        self.assertEqual(ask(("load", VEGA), ("star", 0)), [[1], VEGA_STAR])
        self.assertEqual(ask(("star", 0), ("find", "vega"), ("export",)), [[-3], [-3], [0]])
        self.assertEqual(ask(("load", ONE_STAR), ("find", "vega")), [[1], [-3]])

    def test_same_list_same_answers(self):
        calls = flat([("load", VEGA), ("place", 0, 762436800), ("export",), ("load", "x"), ("star", 0)])
        self.assertEqual(answers(calls), answers(calls))

    def test_calls_in_order(self):
        got = ask(("star", 0), ("load", VEGA), ("find", "vega"), ("load", ONE_STAR), ("find", "vega"), ("find", "a"))
        self.assertEqual(got, [[-3], [1], [0], [1], [-3], [0]])

    def test_handed_in_stays(self):
        texts = [VEGA, line("b") + "\n" + line("b"), "x y", [9], ONE_STAR]
        for text in texts:
            calls = flat([("load", text), ("star", 0), ("find", "a"), ("export",), ("place", 0, 77),
                          ("horizon", 0, 1, 2, 3), ("ecliptic", 0, 5), ("separation", 0, 0, -8)])
            before = list(calls)
            answers(calls)
            self.assertEqual(calls, before)

    def test_handed_in_is_not_written_to(self):
        class ReadOnly(list):
            def refuse(self, *given, **named):
                raise AssertionError("the calls are written to")

            __setitem__ = __delitem__ = __iadd__ = __imul__ = refuse
            append = extend = insert = pop = remove = clear = sort = reverse = refuse

        calls = flat([("load", VEGA), ("star", 0), ("find", "vega"), ("export",), ("place", 0, 77),
                      ("horizon", 0, 1, 2, 3), ("ecliptic", 0, 5), ("separation", 0, 0, -8)])
        self.assertEqual(answers(ReadOnly(calls)), answers(calls))

    def test_answers_are_not_shared_with_the_catalogue(self):
        calls = flat([("load", VEGA), ("star", 0), ("star", 0), ("export",), ("export",)])
        first = answers(calls)
        self.assertEqual(first[2:13], first[13:24])
        for at in range(len(first)):
            first[at] = -99
        self.assertEqual(ask(("load", VEGA), ("star", 0))[1], VEGA_STAR)


class StarAndFind(unittest.TestCase):
    """star and find: what the catalogue tells of a star, and its number."""

    CATALOGUE = "\n".join([
        line("abc", "01:02:03.004", "-05:06:07.008", "-1.5", "-12", "-00099"),
        line("abcd", "23:59:59.999", "+90:00:00.000", "99.999", "99999", "-99999"),
        line("a-1", "00:00:00.001", "-90:00:00.000", "-99.999", "-99999", "99999"),
    ])

    def test_star(self):
        got = ask(("load", self.CATALOGUE), ("star", 0), ("star", 1), ("star", 2))
        self.assertEqual(got, [
            [3],
            [55845060, -18367008, -1500, -12, -99, 3, 97, 98, 99],
            [1295999985, 324000000, 99999, 99999, -99999, 4, 97, 98, 99, 100],
            [15, -324000000, -99999, -99999, 99999, 3, 97, 45, 49],
        ])

    def test_no_such_star(self):
        for i in (3, 4, 59, 60, 10**18):
            self.assertEqual(ask_last(("load", self.CATALOGUE), ("star", i)), [-3])

    def test_find(self):
        got = ask(("load", self.CATALOGUE), ("find", "abc"), ("find", "abcd"), ("find", "a-1"))
        self.assertEqual(got, [[3], [0], [1], [2]])

    def test_no_star_with_the_name(self):
        for name in ("", "a", "ab", "abcde", "ABC", "abc ", " abc", "abc\n", "a-2", "1", "bc", "a" * 6100,
                     [300], [97, 98, 99, 0], [97, 98, 299], [0, 0, 0]):
            self.assertEqual(ask_last(("load", self.CATALOGUE), ("find", name)), [-3], name)

    def test_find_counts_stars_not_lines(self):
        text = "# abc\n\n" + line("b") + "\n \n#\n" + line("c") + "\n"
        self.assertEqual(ask(("load", text), ("find", "b"), ("find", "c"), ("star", 2)), [[2], [0], [1], [-3]])


if __name__ == "__main__":
    unittest.main()
