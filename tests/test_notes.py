"""flatstrip/notes.py: [16], and [1] for it."""

import copy
import itertools
import unittest

from flatstrip import errors, notes
from flatstrip.notes import read, written
from flatstrip.strips import checked

OTHER_ERRORS = (errors.BadStrip, errors.BadOrder, errors.NoFold, errors.NothingDone, errors.TooMany)
THREE = ([3, 2, 10], ["valley", "hill"])
THREE_TEXT = "3 v 2 h 10"


class TheInterface(unittest.TestCase):
    def test_the_functions_are_defined_here(self):
        for name in ("written", "read"):
            with self.subTest(name=name):
                self.assertEqual(getattr(notes, name).__module__, "flatstrip.notes")


class WrittenAndRead(unittest.TestCase):
    def both(self, strip, text):
        self.assertEqual(written(strip), text)
        self.assertEqual(read(text), strip)
        self.assertIs(type(written(strip)), str)
        told = read(text)
        self.assertEqual([type(told), type(told[0]), type(told[1])], [tuple, list, list])
        self.assertEqual(checked(told), strip)

    def test_ordinary(self):
        self.both(THREE, THREE_TEXT)
        self.both(([4, 4], ["hill"]), "4 h 4")
        self.both(([12, 7, 300, 45], ["hill", "hill", "valley"]), "12 h 7 h 300 v 45")

    def test_one_piece(self):
        self.both(([5], []), "5")

    def test_thirty_pieces(self):
        self.both(([7] * 30, ["hill"] * 29), "7 h " * 29 + "7")
        lengths = list(range(971, 1001))
        marks = ["valley", "hill"] * 14 + ["valley"]
        words = [f"{length} {mark[0]} " for length, mark in zip(lengths, marks)]
        self.both((lengths, marks), "".join(words) + "1000")

    def test_the_least_and_the_greatest_length(self):
        self.both(([1, 1000], ["valley"]), "1 v 1000")
        self.both(([1000], []), "1000")

    def test_each_length(self):
        for length in range(1, 1001):
            self.assertEqual(written(([length], [])), str(length))
            self.assertEqual(read(str(length)), ([length], []))

    def test_strips_that_do_not_fold(self):
        self.both(([3, 2, 3], ["valley", "valley"]), "3 v 2 v 3")

    def test_what_is_written_is_read_to_the_same_strip(self):
        for lengths in itertools.product((1, 10, 99, 1000), repeat=4):
            for marks in itertools.product(("hill", "valley"), repeat=3):
                strip = (list(lengths), list(marks))
                self.assertEqual(read(written(strip)), strip)


class OtherTexts(unittest.TestCase):
    def refused(self, *values):
        for value in values:
            with self.subTest(kind=type(value), value=repr(value)[:60]):
                with self.assertRaises(errors.BadText) as caught:
                    read(value)
                self.assertIsInstance(caught.exception, errors.FoldError)
                self.assertNotIsInstance(caught.exception, OTHER_ERRORS)

    def test_nothing(self):
        self.refused("", " ", "  ", "\n", "\t")

    def test_blanks_too_many_or_too_few(self):
        self.refused(" 3 v 2 h 10", "3 v 2 h 10 ", "3  v 2 h 10", "3 v  2 h 10", "3 v 2 h  10", "  3 v 2", " 5", "5 ")
        self.refused("3v 2 h 10", "3 v2 h 10", "3v2h10", "3 v 2h 10", "3 v 2 h10", "3 v 2h10")

    def test_one_blank_fewer_or_more_at_any_place(self):
        for at in range(len(THREE_TEXT) + 1):
            self.refused(THREE_TEXT[:at] + " " + THREE_TEXT[at:])
            if THREE_TEXT[at:at + 1] == " ":
                self.refused(THREE_TEXT[:at] + THREE_TEXT[at + 1:])

    def test_other_white_space(self):
        for space in ("\t", "\n", "\r", "\v", "\f", "\u00a0", "\u2003", "\u3000", "\x1c", "\u2028", "\x00", "_", "."):
            self.refused(THREE_TEXT.replace(" ", space), f"3{space}v 2", f"3 v{space}2", f"3 v 2{space}h 4")
            self.refused(space + "5", "5" + space, "3 v 2" + space, space + "3 v 2")

    def test_line_ends(self):
        self.refused("3 v 2 h 10\n", "\n3 v 2 h 10", "3 v 2\nh 10", "3 v 2 h 10\r\n", "5\n", "5\r", "3 v\n2", "3 v 2 \n",
                     "3 v 2\n3 v 2")

    def test_signs_too_many_or_too_few(self):
        self.refused("3 v", "v 3", "v", "h", "3 v v 2", "3 v h 2", "3 2", "3 2 v", "v h", "v 3 v", "3 v 2 h", "h 3 v 2",
                     "3 v 2 10", "3 vv 2", "3 vh 2", "3 v 2 v")

    def test_other_signs(self):
        self.refused("3 V 2", "3 H 2", "3 x 2", "3 valley 2", "3 hill 2", "3 - 2", "3 5 2", "3 \u03bd 2", "3 \uff56 2",
                     "3 \u0432 2", "3 v\u0301 2")

    def test_signs_in_the_places_of_lengths(self):
        self.refused("v v v", "3 v h", "h v 2", "3 v 2 v v")

    def test_lengths_beyond_the_limits(self):
        self.refused("0", "1001", "3 v 0", "0 v 3", "3 v 1001", "1001 v 3", "3 v 0 h 4", "10000", "9999", "1000000")

    def test_a_first_figure_0(self):
        self.refused("01", "00", "3 v 01", "01 v 3", "007", "0000", "0001", "01000", "3 v 010 h 2")

    def test_a_figure_too_many(self):
        self.refused("3 v 2 h 1000 0", "3 3 v 2", "10000 v 1", "1 0 v 2", "10001")

    def test_very_many_figures(self):
        self.refused("9" * 5000, "1" + "0" * 100000, "3 v " + "1" * 5000, "0" * 5000 + "1")

    def test_signs_ahead_of_a_length(self):
        self.refused("+3", "-3", "3 v +2", "3 v -2", "--3", "-0", "+0", "3 v - 2")

    def test_lengths_that_int_would_read(self):
        self.refused("1_0", "1_000", "3 v 1_0", "0x10", "0b1", "0o7", "1e2", "3.0", "3.", "3,5", " 3", "3L")

    def test_figures_of_other_scripts(self):
        self.refused("\u0663", "\uff13", "\u00b3", "\u0967", "3 v \u0662", "1\u0660", "\u2463", "\U0001d7d1", "\u00bd")

    def test_thirty_one_pieces(self):
        self.refused("7 h " * 30 + "7", "1 v " * 30 + "1", "7 h " * 1000 + "7", "7 h " * 29 + "7 h", "7 " * 29 + "7")

    def test_other_texts(self):
        self.refused("three", "3 v two", "None", "strip", "([3], [])", "3 v 2 h 10 end", "3v", "\u0000", "3 v 2;", "\ud800",
                     "5\x00", "()", "'5'", "a v b")

    def test_things_that_are_no_text(self):
        self.refused(None, 5, 0, True, False, 5.0, b"3 v 2", b"5", bytearray(b"5"), ["5"], ("5",), {"5": 1}, {"5"}, [],
                     (), THREE, ["3", "v", "2"], iter("5"), object(), str, read)


class NothingIsKept(unittest.TestCase):
    """[1]: what is handed in stays, and what is told is the asker's own."""

    def test_what_is_handed_in_stays(self):
        strip = copy.deepcopy(THREE)
        written(strip)
        self.assertEqual(strip, THREE)

    def test_a_strip_that_was_read_may_be_changed(self):
        for text in (THREE_TEXT, "5"):
            before = copy.deepcopy(read(text))
            lengths, marks = read(text)
            lengths.append(9)
            lengths[0] = 8
            marks.append("hill")
            marks[0] = "valley"
            self.assertEqual(read(text), before)

    def test_a_strip_that_is_changed_is_written_anew(self):
        strip = copy.deepcopy(THREE)
        text = written(strip)
        strip[0][0] = 4
        strip[1][1] = "valley"
        self.assertEqual(text, THREE_TEXT)
        self.assertEqual(written(strip), "4 v 2 v 10")


if __name__ == "__main__":
    unittest.main()
