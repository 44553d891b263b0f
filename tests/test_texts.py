"""Texts of catalogues: what load refuses, what it reads, what export writes."""

import unittest

from tests.support import WRONG, as_bytes, ask, ask_last, exported, line, load, many_lines

GOOD = "keep 01:02:03.004 -05:06:07.008 -1.5 -12 99\n"


class AllowedTexts(unittest.TestCase):
    """-1: more than 6000 bytes, or a byte other than 10 and 32 to 126."""

    def test_length(self):
        head = line() + "\n"
        self.assertEqual(load(head + " " * (6000 - len(head))), [1])
        self.assertEqual(load(head + "\n" * (6000 - len(head))), [1])
        self.assertEqual(load(head + " " * (6001 - len(head))), [-1])
        self.assertEqual(load("#" * 6000), [0])
        self.assertEqual(load("#" * 6001), [-1])
        self.assertEqual(load("#" * 6100), [-1])

    def test_each_byte_in_a_remark(self):
        for byte in range(301):
            allowed = byte == 10 or 32 <= byte <= 126
            text = as_bytes("#") + [byte] + as_bytes("\n" + line())
            if byte == 10:
                self.assertEqual(load(text), [1])
            else:
                self.assertEqual(load(text), [1] if allowed else [-1], byte)

    def test_byte_at_the_beginning_and_the_end(self):
        for byte in (0, 9, 11, 13, 31, 127, 128, 255, 256, 266, 288, 300):
            self.assertEqual(load([byte]), [-1])
            self.assertEqual(load([byte] + as_bytes(line())), [-1])
            self.assertEqual(load(as_bytes(line()) + [byte]), [-1])

    def test_before_every_other_error(self):
        for text in WRONG.values():
            self.assertEqual(load(as_bytes(text + "\n") + [127]), [-1])
            self.assertEqual(load(text + "\n" + " " * 6000), [-1])


class LinesAndWords(unittest.TestCase):
    """Lines and their numbers, words and spaces, lines that are ignored."""

    def test_nothing(self):
        for text in ("", " ", "\n", "\n\n \n", "#", "#\n# x\n   #y z", "#x 00:00:00.000"):
            self.assertEqual(load(text), [0], text)

    def test_line_feed_at_the_end_or_not(self):
        self.assertEqual(load(line()), [1])
        self.assertEqual(load(line() + "\n"), [1])
        self.assertEqual(load("\n" + line("a") + "\n\n" + line("b") + "\n\n"), [2])

    def test_spaces(self):
        spaced = "   " + line().replace(" ", "    ") + "  "
        self.assertEqual(load(spaced), [1])
        self.assertEqual(exported(spaced), exported(line()))

    def test_number_sign_in_another_place(self):
        self.assertEqual(load(line() + " # x"), [-11, 1])
        self.assertEqual(load("x#" + line()), [-12, 1])
        self.assertEqual(load("  #" + line()), [0])
        self.assertEqual(load("# " + line() + "\n" + line()), [1])

    def test_line_numbers_count_every_line(self):
        self.assertEqual(load("x"), [-11, 1])
        self.assertEqual(load("\nx"), [-11, 2])
        self.assertEqual(load("# a\n  \n" + line() + "\n\n x y "), [-11, 5])

    def test_first_line_with_an_error_counts(self):
        self.assertEqual(load(line(motion="x") + "\nx"), [-16, 1])
        self.assertEqual(load(line() + "\n" + line() + "\nx"), [-17, 2])
        self.assertEqual(load(line() + "\nx\n" + line()), [-11, 2])


class KindsOfErrors(unittest.TestCase):
    """The kinds 1 to 8 and the order in which they are checked."""

    def test_each_kind_with_its_line(self):
        for kind, text in WRONG.items():
            self.assertEqual(load(text), [-10 - kind, 2], text)
        self.assertEqual(load("\n".join(many_lines(61))), [-18, 61])

    def test_number_of_words(self):
        words = line().split(" ")
        for count in range(1, 6):
            self.assertEqual(load(" ".join(words[:count])), [-11, 1])
        for more in ("0", "#", "x y"):
            self.assertEqual(load(line() + " " + more), [-11, 1])

    def test_order_of_the_words(self):
        wrong = [("name", "X"), ("right_ascension", "x"), ("declination", "x"), ("magnitude", "x"), ("motion", "x")]
        for first in range(len(wrong)):
            self.assertEqual(load(line(**dict(wrong[first:]))), [-12 - first, 1])
            for second in range(first + 1, len(wrong)):
                self.assertEqual(load(line(**dict([wrong[first], wrong[second]]))), [-12 - first, 1])

    def test_number_of_words_comes_first(self):
        self.assertEqual(load("X x x x x"), [-11, 1])
        self.assertEqual(load("X x x x x x x"), [-11, 1])

    def test_either_motion(self):
        self.assertEqual(load(line(motion="x")), [-16, 1])
        self.assertEqual(load(line(other_motion="x")), [-16, 1])
        self.assertEqual(load(line(motion="x", other_motion="x")), [-16, 1])

    def test_same_name(self):
        self.assertEqual(load(line("a") + "\n" + line("b") + "\n\n" + line("a", magnitude="2")), [-17, 4])
        self.assertEqual(load(line("a") + "\n" + line("aa") + "\n" + line("a-") + "\n" + line("a0")), [4])
        self.assertEqual(load("# a\n" + line("a")), [1])

    def test_same_name_comes_behind_the_words(self):
        for kind, wrong in ((3, {"right_ascension": "x"}), (4, {"declination": "x"}),
                            (5, {"magnitude": "x"}), (6, {"motion": "x"}), (6, {"other_motion": "x"})):
            self.assertEqual(load(line() + "\n" + line(**wrong)), [-10 - kind, 2])
        self.assertEqual(load(line() + "\n" + line() + " 1"), [-11, 2])

    def test_same_name_in_another_text(self):
        self.assertEqual(ask(("load", line()), ("load", line())), [[1], [1]])

    def test_sixty_stars(self):
        lines = many_lines(61)
        self.assertEqual(load("\n".join(lines[:60])), [60])
        self.assertEqual(load("\n".join(lines[:60]) + "\n\n# x\n"), [60])
        self.assertEqual(load("\n".join(lines)), [-18, 61])
        self.assertEqual(load("\n#\n" + "\n".join(lines)), [-18, 63])
        got = ask(("load", "\n".join(lines[:60])), ("star", 59), ("star", 60), ("find", "s59"))
        self.assertEqual(got, [[60], [0, 0, 1000, 0, 0, 3, 115, 53, 57], [-3], [59]])

    def test_too_many_stars_comes_last(self):
        head = "\n".join(many_lines(60)) + "\n"
        self.assertEqual(load(head + line("s0")), [-17, 61])
        self.assertEqual(load(head + line("s0", motion="x")), [-16, 61])
        self.assertEqual(load(head + line("new", magnitude="x")), [-15, 61])
        self.assertEqual(load(head + line("new", declination="x")), [-14, 61])
        self.assertEqual(load(head + line("new", right_ascension="x")), [-13, 61])
        self.assertEqual(load(head + line("NEW")), [-12, 61])
        self.assertEqual(load(head + "new"), [-11, 61])
        self.assertEqual(load(head + line("new") + "\nx"), [-18, 61])

    def test_sixty_stars_and_more_again(self):
        text = "\n".join(many_lines(60))
        self.assertEqual(ask(("load", text), ("load", text), ("load", line())), [[60], [60], [1]])


class ErrorsChangeNothing(unittest.TestCase):
    """A text with an error leaves the catalogue as it was."""

    def test_each_error(self):
        texts = [line("new") + "\n" + text for text in WRONG.values()]
        texts += ["\n".join(many_lines(61)), [9], line("new") + " " * 6000, as_bytes(line("new")) + [127]]
        before = ask(("load", GOOD), ("star", 0), ("find", "keep"), ("export",), ("find", "new"), ("star", 1))
        self.assertEqual(before[4:], [[-3], [-3]])
        for text in texts:
            got = ask(("load", GOOD), ("load", text), ("star", 0), ("find", "keep"), ("export",),
                      ("find", "new"), ("star", 1))
            self.assertLess(got[1][0], 0)
            self.assertEqual(got[:1] + got[2:], before)

    def test_good_text_replaces_all(self):
        got = ask(("load", GOOD), ("load", line("new")), ("find", "keep"), ("find", "new"), ("star", 1))
        self.assertEqual(got, [[1], [1], [-3], [0], [-3]])
        self.assertEqual(ask(("load", GOOD), ("load", ""), ("find", "keep"), ("export",)), [[1], [0], [-3], [0]])


class FormsOfWords(unittest.TestCase):
    """The form of each word: what is read, and what is malformed."""

    def check(self, word, good, wrong, kind):
        for text in good:
            self.assertEqual(load(line(**{word: text})), [1], text)
        for text in wrong:
            self.assertEqual(load(line(**{word: text})), [-10 - kind, 1], text)

    def test_name(self):
        good = ["a", "z", "a0", "z9", "a-", "a--", "abc-def-0", "abcdefghijkl", "a-0123456789", "q1w2e3"]
        wrong = ["A", "1", "0a", "-", "-a", "aB", "a_b", "a.b", "a:", "a/", "a;", "a`", "a{", "a@", "{", "`",
                 "abcdefghijklm", "a" * 200, "a#", "+a", "a+", "a,"]
        self.check("name", good, wrong, 2)

    def test_right_ascension(self):
        good = ["00:00:00.000", "23:59:59.999", "09:09:09.090", "19:00:00.001"]
        wrong = ["24:00:00.000", "24:00:00.001", "25:00:00.000", "99:00:00.000", "00:60:00.000", "00:99:00.000",
                 "00:00:60.000", "23:59:60.000", "0:00:00.000", "000:00:00.000", "00:0:00.000", "00:00:0.000",
                 "00:00:00.00", "00:00:00.0000", "00:00:00", "00:00:00.", "00:00.000", "+00:00:00.000",
                 "-00:00:00.000", "00.00.00.000", "00:00:00:000", "00:00:00,000", "00-00-00.000", "a0:00:00.000",
                 "00:0x:00.000", "00:00:00.00x", "00:00:/0.000", "00:00::0.000", "0", "000000000000", ":::.",
                 "00:00:0-.000", "00:00:00.-00"]
        self.check("right_ascension", good, wrong, 3)

    def test_declination(self):
        good = ["+00:00:00.000", "-00:00:00.000", "+89:59:59.999", "-89:59:59.999", "+90:00:00.000", "-90:00:00.000"]
        wrong = ["+90:00:00.001", "-90:00:00.001", "+90:00:01.000", "+90:01:00.000", "-90:59:59.999", "+91:00:00.000",
                 "-99:59:59.999", "+00:60:00.000", "-00:00:60.000", "+89:60:00.000", "+89:59:60.000", "00:00:00.000",
                 "++0:00:00.000", "+-00:00:00.000", "*00:00:00.000", ",00:00:00.000", "+0:00:00.000",
                 "+000:00:00.000", "+00:00:00.00", "+00:00:00.0000", "+00:00:00", "+", "-", "+00.00:00.000",
                 "+00:00:00:000", "+00:00:0a.000", "000:00:00.000", "+-0:00:00.000"]
        self.check("declination", good, wrong, 4)

    def test_magnitude(self):
        good = ["0", "9", "00", "99", "-0", "-1", "-99", "0.0", "0.00", "0.000", "99.999", "-99.999", "05.5", "-00.001"]
        wrong = ["1.", "-", "-1.", ".5", "-.5", "100", "-100", "1.0000", "100.0", "1.2.3", "1..2", "+1", "--1",
                 "1-", "1.-5", "a", "1a", "1.a", "1,5", ".", "-.", "1.5-", "1:5", "0/", "0x1", "1e1"]
        self.check("magnitude", good, wrong, 5)

    def test_motion(self):
        good = ["0", "-0", "00000", "-00000", "99999", "-99999", "1", "00012", "-00012"]
        wrong = ["100000", "000000", "-100000", "-000000", "+1", "--1", "-", "1-", "1.0", "a", "1a", "0x1", ".", "/",
                 ":"]
        self.check("motion", good, wrong, 6)
        self.check("other_motion", good, wrong, 6)

    def test_values(self):
        def star(**words):
            return ask_last(("load", line(**words)), ("star", 0))[:5]

        self.assertEqual(star(right_ascension="00:00:00.001")[0], 15)
        self.assertEqual(star(right_ascension="00:00:01.000")[0], 15000)
        self.assertEqual(star(right_ascension="00:01:00.000")[0], 900000)
        self.assertEqual(star(right_ascension="01:00:00.000")[0], 54000000)
        self.assertEqual(star(right_ascension="23:59:59.999")[0], 1295999985)
        self.assertEqual(star(declination="+00:00:00.001")[1], 1)
        self.assertEqual(star(declination="-00:00:01.000")[1], -1000)
        self.assertEqual(star(declination="+00:01:00.000")[1], 60000)
        self.assertEqual(star(declination="-01:00:00.000")[1], -3600000)
        self.assertEqual(star(declination="-00:00:00.000")[1], 0)
        self.assertEqual(star(declination="-90:00:00.000")[1], -324000000)
        magnitudes = {"0": 0, "-0": 0, "7": 7000, "07": 7000, "12": 12000, "-1.4": -1400, "1.04": 1040, "1.004": 1004,
                      "-0.5": -500, "-0.05": -50, "-00.005": -5, "99.999": 99999, "-99.999": -99999, "5.120": 5120}
        for word, value in magnitudes.items():
            self.assertEqual(star(magnitude=word)[2], value, word)
        motions = {"0": 0, "-0": 0, "00012": 12, "-00012": -12, "99999": 99999, "-99999": -99999, "-1": -1}
        for word, value in motions.items():
            self.assertEqual(star(motion=word)[3:], [value, 0], word)
            self.assertEqual(star(other_motion=word)[3:], [0, value], word)


class Export(unittest.TestCase):
    """The text of a catalogue, and that it is read as the same."""

    def written(self, **words):
        return exported(line(**words))

    def test_empty(self):
        self.assertEqual(ask(("export",), ("load", "# none"), ("export",)), [[0], [0], [0]])

    def test_signs_and_zeros(self):
        cases = [
            ({"declination": "-00:00:00.000"}, {"magnitude": "1.000"}),
            ({"declination": "-00:00:00.001"}, {"declination": "-00:00:00.001", "magnitude": "1.000"}),
            ({"declination": "-09:08:07.006"}, {"declination": "-09:08:07.006", "magnitude": "1.000"}),
            ({"declination": "+90:00:00.000"}, {"declination": "+90:00:00.000", "magnitude": "1.000"}),
            ({"declination": "-90:00:00.000"}, {"declination": "-90:00:00.000", "magnitude": "1.000"}),
            ({"right_ascension": "00:00:00.001"}, {"right_ascension": "00:00:00.001", "magnitude": "1.000"}),
            ({"right_ascension": "23:59:59.999"}, {"right_ascension": "23:59:59.999", "magnitude": "1.000"}),
            ({"right_ascension": "09:08:07.060"}, {"right_ascension": "09:08:07.060", "magnitude": "1.000"}),
            ({"magnitude": "-0"}, {"magnitude": "0.000"}),
            ({"magnitude": "-00.000"}, {"magnitude": "0.000"}),
            ({"magnitude": "00.5"}, {"magnitude": "0.500"}),
            ({"magnitude": "-0.5"}, {"magnitude": "-0.500"}),
            ({"magnitude": "-00.005"}, {"magnitude": "-0.005"}),
            ({"magnitude": "-01.05"}, {"magnitude": "-1.050"}),
            ({"magnitude": "09"}, {"magnitude": "9.000"}),
            ({"magnitude": "10"}, {"magnitude": "10.000"}),
            ({"magnitude": "-99.999"}, {"magnitude": "-99.999"}),
            ({"motion": "-0", "other_motion": "-00000"}, {"magnitude": "1.000"}),
            ({"motion": "00012", "other_motion": "-00012"},
             {"magnitude": "1.000", "motion": "12", "other_motion": "-12"}),
            ({"motion": "-99999", "other_motion": "99999"},
             {"magnitude": "1.000", "motion": "-99999", "other_motion": "99999"}),
        ]
        for words, want in cases:
            self.assertEqual(self.written(**words), line(**want) + "\n", words)

    def test_lines_in_the_order_of_the_stars(self):
        text = "# z\n\n  " + line("zz", magnitude="2") + "\n" + line("aa", magnitude="3.25") + "\n#"
        want = line("zz", magnitude="2.000") + "\n" + line("aa", magnitude="3.250") + "\n"
        self.assertEqual(exported(text), want)

    def test_written_and_read_as_the_same(self):
        rows = []
        for i in range(60):
            rows.append(line(
                f"star-{i:07}",
                f"{i % 24:02}:{59 - i:02}:{i:02}.{i * 16:03}",
                "+-"[i % 2] + f"{i + 29:02}:{i:02}:{59 - i:02}.{i:03}",
                f"{-10 - i if i % 3 else 10 + i}.{999 - i}",
                f"{i - 99999}",
                f"{i - 99999 if i % 5 else 99999 - i}",
            ))
        rows[0] = line("pole", declination="+90:00:00.000", magnitude="0.000")
        text = "\n".join(rows) + "\n"
        stars = [("star", i) for i in range(19)]
        first = ask(("load", text), ("export",), *stars)
        self.assertEqual(first[0], [60])
        self.assertEqual(first[1][1:], as_bytes(text))
        again = ask(("load", first[1][1:]), ("export",), *stars)
        self.assertEqual(again, first)

    def test_other_spellings_are_read_as_the_same(self):
        text = "  a   01:02:03.040  -00:00:00.000 -00.5  -00007   00\n#\nb 00:00:00.000 -00:00:00.100 00 0 -0"
        first = ask(("load", text), ("export",), ("star", 0), ("star", 1))
        again = ask(("load", first[1][1:]), ("export",), ("star", 0), ("star", 1))
        self.assertEqual(again, first)
        want = "a 01:02:03.040 +00:00:00.000 -0.500 -7 0\nb 00:00:00.000 -00:00:00.100 0.000 0 0\n"
        self.assertEqual(first[1], [len(want)] + as_bytes(want))


if __name__ == "__main__":
    unittest.main()
