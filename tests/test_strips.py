"""flatstrip/strips.py: [1], [2], [3]."""

import copy
import unittest

from flatstrip import errors, strips
from flatstrip.strips import MOST_LENGTH, MOST_PIECES, checked, over, part, turned

OTHER_ERRORS = (errors.BadOrder, errors.NoFold, errors.NothingDone, errors.TooMany, errors.BadText)


class Sly:
    """Claims to be equal to everything, and fails on every other question."""

    def __eq__(self, other):
        return True

    def __len__(self):
        raise RuntimeError("asked for a length")

    def __iter__(self):
        raise RuntimeError("iterated over")

    def __lt__(self, other):
        raise RuntimeError("compared")

    __le__ = __gt__ = __ge__ = __lt__


class TheInterface(unittest.TestCase):
    def test_the_limits(self):
        self.assertEqual((MOST_PIECES, MOST_LENGTH), (30, 1000))

    def test_the_functions_are_defined_here(self):
        for name in ("checked", "turned", "over", "part"):
            with self.subTest(name=name):
                self.assertEqual(getattr(strips, name).__module__, "flatstrip.strips")


class StripsThatAre(unittest.TestCase):
    def accepted(self, strip):
        before = copy.deepcopy(strip)
        told = checked(strip)
        self.assertEqual(told, before)
        self.assertIs(type(told), tuple)
        self.assertEqual([type(rows) for rows in told], [list, list])
        self.assertEqual(strip, before)

    def test_ordinary(self):
        self.accepted(([3, 2, 10], ["valley", "hill"]))
        self.accepted(([4, 4], ["hill"]))
        self.accepted(([7, 7, 7, 1], ["hill", "hill", "valley"]))

    def test_one_piece(self):
        self.accepted(([5], []))

    def test_thirty_pieces(self):
        self.accepted((list(range(1, 31)), ["hill", "valley"] * 14 + ["hill"]))

    def test_the_least_and_the_greatest_length(self):
        self.accepted(([1], []))
        self.accepted(([1000], []))
        self.accepted(([1, 1000, 1], ["valley", "valley"]))

    def test_a_mark_that_is_put_together_at_run_time(self):
        self.accepted(([1, 2], ["".join(["hi", "ll"])]))

    def test_told_in_new_lists_that_may_be_changed(self):
        strip = ([3, 2, 10], ["valley", "hill"])
        told = checked(strip)
        told[0].append(1)
        told[1][0] = "x"
        self.assertEqual(strip, ([3, 2, 10], ["valley", "hill"]))
        self.assertEqual(checked(strip), ([3, 2, 10], ["valley", "hill"]))

    def test_what_was_told_stays_when_what_was_handed_in_changes(self):
        strip = ([3, 2, 10], ["valley", "hill"])
        told = checked(strip)
        strip[0].clear()
        strip[1][1] = "x"
        self.assertEqual(told, ([3, 2, 10], ["valley", "hill"]))


class StripsThatAreNone(unittest.TestCase):
    def refused(self, *values):
        for value in values:
            with self.subTest(kind=type(value)):
                with self.assertRaises(errors.BadStrip) as caught:
                    checked(value)
                self.assertIsInstance(caught.exception, errors.FoldError)
                self.assertIsInstance(caught.exception, ValueError)
                self.assertNotIsInstance(caught.exception, OTHER_ERRORS)

    def test_no_pieces(self):
        self.refused(([], []), ([], ["hill"]))

    def test_thirty_one_pieces(self):
        self.refused(([1] * 31, ["hill"] * 30))

    def test_lengths_beyond_the_limits(self):
        for length in (0, -1, -1000, 1001, 10 ** 5000, -10 ** 5000):
            self.refused(([length], []), ([length, 2], ["hill"]), ([2, length], ["hill"]))

    def test_lengths_of_another_kind(self):
        for length in (True, False, "3", "", None, 3.0, b"3", [3], (3,), {}, Sly(), object(), int):
            self.refused(([length], []), ([length, 2], ["hill"]), ([2, length], ["hill"]))

    def test_marks_of_another_word(self):
        for mark in ("v", "h", "", "Hill", "VALLEY", "hill ", " valley", "mountain", "hillvalley", "hil"):
            self.refused(([1, 2], [mark]), ([1, 2, 3], ["hill", mark]), ([1, 2, 3], [mark, "hill"]))

    def test_marks_of_another_kind(self):
        for mark in (None, True, 0, 1, b"hill", ["hill"], ("hill",), {"hill": 1}, Sly(), object(), str):
            self.refused(([1, 2], [mark]), ([1, 2, 3], ["hill", mark]), ([1, 2, 3], [mark, "hill"]))

    def test_a_mark_too_many_or_too_few(self):
        self.refused(([5], ["hill"]), ([5, 6], []), ([5, 6], ["hill", "hill"]))
        self.refused(([5, 6, 7], ["hill"]), ([5, 6, 7], ["hill", "valley", "hill"]))

    def test_a_list_in_the_place_of_the_tuple(self):
        self.refused([[3, 2], ["hill"]], [[5], []], [])

    def test_tuples_in_the_place_of_the_lists(self):
        self.refused(((3, 2), ["hill"]), ([3, 2], ("hill",)), ((3, 2), ("hill",)), ((5,), []), ([5], ()))

    def test_other_values_in_the_place_of_the_lists(self):
        for value in (None, "", "hill", 1, True, {}, {5: 1}, {5}, range(1, 2), iter([5]), b"a", Sly(), list):
            self.refused((value, []), ([5], value), (value, value), (value, ["hill"]), ([5, 6], value))

    def test_tuples_of_other_sizes(self):
        self.refused((), ([5],), ([5], [], []), ([5, 6], ["hill"], None))

    def test_no_tuple_at_all(self):
        self.refused(None, 0, 5, True, "", "3 v 2", b"", {}, set(), 1.5, object(), Sly(), tuple, checked)

    def test_a_strip_within_itself(self):
        endless = []
        endless.append(endless)
        self.refused(endless, (endless, []), ([5, 6], endless), (endless, endless))

    def test_what_is_refused_is_not_changed(self):
        strip = ([3, 0], ["hill", "x"])
        self.refused(strip)
        self.assertEqual(strip, ([3, 0], ["hill", "x"]))


class TurnedAndOver(unittest.TestCase):
    def test_turned_end_for_end(self):
        self.assertEqual(turned(([3, 2, 10], ["valley", "hill"])), ([10, 2, 3], ["hill", "valley"]))
        self.assertEqual(turned(([1, 2, 3, 4], ["hill", "hill", "valley"])),
                         ([4, 3, 2, 1], ["valley", "hill", "hill"]))

    def test_turned_over(self):
        self.assertEqual(over(([3, 2, 10], ["valley", "hill"])), ([3, 2, 10], ["hill", "valley"]))
        self.assertEqual(over(([1, 2, 3, 4], ["hill", "hill", "valley"])),
                         ([1, 2, 3, 4], ["valley", "valley", "hill"]))

    def test_one_piece(self):
        self.assertEqual(turned(([5], [])), ([5], []))
        self.assertEqual(over(([5], [])), ([5], []))

    def test_a_piece_longer_than_a_strip_begins_with(self):
        self.assertEqual(turned(([2500, 3], ["hill"])), ([3, 2500], ["hill"]))
        self.assertEqual(over(([2500, 3], ["hill"])), ([2500, 3], ["valley"]))

    def test_twice_is_the_same_again(self):
        for strip in (([3, 2, 10], ["valley", "hill"]), ([5], []), ([1, 2, 3, 4], ["hill", "hill", "valley"])):
            with self.subTest(strip=strip):
                self.assertEqual(turned(turned(strip)), strip)
                self.assertEqual(over(over(strip)), strip)


class Parts(unittest.TestCase):
    STRIP = ([3, 2, 10, 4], ["valley", "hill", "hill"])

    def test_a_single_piece(self):
        self.assertEqual(part(self.STRIP, 0, 0), ([3], []))
        self.assertEqual(part(self.STRIP, 2, 2), ([10], []))
        self.assertEqual(part(self.STRIP, 3, 3), ([4], []))

    def test_the_whole(self):
        self.assertEqual(part(self.STRIP, 0, 3), self.STRIP)
        self.assertEqual(part(([5], []), 0, 0), ([5], []))

    def test_a_part_ahead(self):
        self.assertEqual(part(self.STRIP, 0, 1), ([3, 2], ["valley"]))
        self.assertEqual(part(self.STRIP, 0, 2), ([3, 2, 10], ["valley", "hill"]))

    def test_a_part_behind(self):
        self.assertEqual(part(self.STRIP, 2, 3), ([10, 4], ["hill"]))
        self.assertEqual(part(self.STRIP, 1, 3), ([2, 10, 4], ["hill", "hill"]))

    def test_a_part_amid(self):
        self.assertEqual(part(self.STRIP, 1, 2), ([2, 10], ["hill"]))

    def test_a_piece_longer_than_a_strip_begins_with(self):
        self.assertEqual(part(([3, 2500, 1], ["hill", "valley"]), 1, 2), ([2500, 1], ["valley"]))


class NothingIsKept(unittest.TestCase):
    """[1]: what is handed in stays, and what is told is the asker's own."""

    ASKED = (turned, over, lambda strip: part(strip, 0, 3), lambda strip: part(strip, 1, 2))

    def setUp(self):
        self.strip = ([3, 2, 10, 4], ["valley", "hill", "hill"])

    def test_what_is_handed_in_stays(self):
        for ask in self.ASKED:
            ask(self.strip)
            self.assertEqual(self.strip, ([3, 2, 10, 4], ["valley", "hill", "hill"]))

    def test_what_is_told_is_a_tuple_of_lists(self):
        for ask in self.ASKED:
            told = ask(self.strip)
            self.assertIs(type(told), tuple)
            self.assertEqual([type(rows) for rows in told], [list, list])

    def test_what_is_told_may_be_changed(self):
        for ask in self.ASKED:
            before = copy.deepcopy(ask(self.strip))
            told = ask(self.strip)
            told[0].append(1)
            told[1][0] = "x"
            self.assertEqual(self.strip, ([3, 2, 10, 4], ["valley", "hill", "hill"]))
            self.assertEqual(ask(self.strip), before)

    def test_what_was_told_stays_when_what_was_handed_in_changes(self):
        for ask in self.ASKED:
            strip = copy.deepcopy(self.strip)
            told = ask(strip)
            before = copy.deepcopy(told)
            strip[0].clear()
            strip[1].clear()
            self.assertEqual(told, before)

    def test_the_lists_of_a_single_piece_are_new_too(self):
        for ask in (turned, over, checked, lambda strip: part(strip, 0, 0)):
            strip = ([5], [])
            told = ask(strip)
            told[0].append(6)
            told[1].append("hill")
            self.assertEqual(strip, ([5], []))


if __name__ == "__main__":
    unittest.main()
