"""flatstrip/moves.py: [7], [8], and [1] for them."""

import copy
import itertools
import unittest

from flatstrip import errors
from flatstrip import moves as moves_file
from flatstrip.moves import moves, taken

FIRST, LAST = ("first",), ("last",)
OTHER_ERRORS = (errors.BadStrip, errors.BadOrder, errors.NothingDone, errors.TooMany, errors.BadText)
# All three kinds of moves: first 2 <= 3, last 3 <= 3, pleats at the creases 1 and 2.
MANY = ([2, 3, 3, 3, 3], ["valley", "valley", "hill", "valley"])


def pleat(crease):
    return ("pleat", crease)


def small_strips(pieces, longest):
    for lengths in itertools.product(range(1, longest + 1), repeat=pieces):
        for marks in itertools.product(("hill", "valley"), repeat=pieces - 1):
            yield list(lengths), list(marks)


class Sly:
    """Claims to be equal to everything."""

    def __eq__(self, other):
        return True

    def __hash__(self):
        return hash("first")


class TheInterface(unittest.TestCase):
    def test_the_functions_are_defined_here(self):
        for name in ("moves", "taken"):
            with self.subTest(name=name):
                self.assertEqual(getattr(moves_file, name).__module__, "flatstrip.moves")


class MovesOfEnds(unittest.TestCase):
    def test_the_first_piece_no_longer_than_the_second(self):
        self.assertEqual(moves(([2, 3], ["hill"])), [FIRST])
        self.assertEqual(moves(([2, 3, 1, 4], ["hill"] * 3)), [FIRST])

    def test_the_last_piece_no_longer_than_the_last_but_one(self):
        self.assertEqual(moves(([3, 2], ["valley"])), [LAST])
        self.assertEqual(moves(([4, 1, 3, 2], ["valley"] * 3)), [LAST])

    def test_equal_lengths(self):
        self.assertEqual(moves(([4, 4], ["hill"])), [FIRST, LAST])
        self.assertEqual(moves(([4, 4, 3, 5, 5], ["hill"] * 4)), [FIRST, LAST])

    def test_one_longer_is_none(self):
        self.assertEqual(moves(([4, 3, 3, 4], ["hill"] * 3)), [])
        self.assertEqual(moves(([3, 2, 3], ["valley"] * 2)), [])

    def test_marks_do_not_matter_for_ends(self):
        for mark in ("hill", "valley"):
            self.assertEqual(moves(([1, 2, 1], [mark] * 2)), [FIRST, LAST])

    def test_one_piece_has_none(self):
        self.assertEqual(moves(([5], [])), [])
        self.assertEqual(moves(([2500], [])), [])


class MovesOfPleats(unittest.TestCase):
    def test_unlike_marks(self):
        self.assertEqual(moves(([3, 2, 10], ["valley", "hill"])), [pleat(0)])
        self.assertEqual(moves(([3, 2, 10], ["hill", "valley"])), [pleat(0)])

    def test_like_marks_are_none(self):
        self.assertEqual(moves(([3, 2, 10], ["valley", "valley"])), [])
        self.assertEqual(moves(([3, 2, 10], ["hill", "hill"])), [])

    def test_the_middle_as_long_as_either_neighbour(self):
        self.assertEqual(moves(([3, 3, 10], ["valley", "hill"])), [FIRST, pleat(0)])
        self.assertEqual(moves(([10, 3, 3], ["valley", "hill"])), [LAST, pleat(0)])
        self.assertEqual(moves(([3, 3, 3], ["hill", "valley"])), [FIRST, LAST, pleat(0)])

    def test_the_middle_longer_than_either_neighbour_is_none(self):
        self.assertEqual(moves(([2, 3, 10], ["valley", "hill"])), [FIRST])
        self.assertEqual(moves(([10, 3, 2], ["valley", "hill"])), [LAST])
        self.assertEqual(moves(([5, 4, 5, 4, 5], ["hill", "hill", "valley", "valley"])), [])

    def test_two_pieces_have_no_pleat(self):
        self.assertEqual(moves(([4, 4], ["valley"])), [FIRST, LAST])

    def test_by_their_creases(self):
        strip = ([9, 5, 5, 5, 9], ["valley", "hill", "valley", "hill"])
        self.assertEqual(moves(strip), [pleat(0), pleat(1), pleat(2)])
        strip = ([9, 5, 6, 5, 9], ["valley", "hill", "valley", "hill"])
        self.assertEqual(moves(strip), [pleat(0), pleat(2)])
        strip = ([9, 5, 5, 5, 9], ["valley", "hill", "hill", "valley"])
        self.assertEqual(moves(strip), [pleat(0), pleat(2)])

    def test_first_then_last_then_pleats(self):
        self.assertEqual(moves(MANY), [FIRST, LAST, pleat(1), pleat(2)])

    def test_thirty_pieces(self):
        marks = ["valley", "hill"] * 14 + ["valley"]
        self.assertEqual(moves(([7] * 30, marks)), [FIRST, LAST] + [pleat(crease) for crease in range(28)])
        self.assertEqual(moves(([9] + [7] * 28 + [9], ["hill"] * 29)), [])

    def test_pieces_longer_than_a_strip_begins_with(self):
        self.assertEqual(moves(([2500, 2500, 2501], ["hill", "valley"])), [FIRST, pleat(0)])

    def test_moves_are_tuples_in_a_list(self):
        told = moves(MANY)
        self.assertEqual([type(told)] + [type(move) for move in told], [list] + [tuple] * 4)
        self.assertEqual([type(move[0]) for move in told] + [type(told[3][1])], [str] * 4 + [int])


class Taken(unittest.TestCase):
    def test_first(self):
        self.assertEqual(taken(([2, 3, 1, 4], ["hill", "valley", "valley"]), FIRST),
                         ([3, 1, 4], ["valley", "valley"]))

    def test_last(self):
        self.assertEqual(taken(([4, 1, 3, 2], ["valley", "valley", "hill"]), LAST),
                         ([4, 1, 3], ["valley", "valley"]))

    def test_two_pieces(self):
        self.assertEqual(taken(([3, 4], ["hill"]), FIRST), ([4], []))
        self.assertEqual(taken(([4, 3], ["hill"]), LAST), ([4], []))

    def test_pleat_of_three_pieces(self):
        self.assertEqual(taken(([3, 2, 10], ["valley", "hill"]), pleat(0)), ([11], []))

    def test_pleat_at_the_beginning_amid_and_at_the_end(self):
        strip = ([8, 5, 6, 4, 7], ["valley", "hill", "valley", "hill"])
        self.assertEqual(taken(strip, pleat(0)), ([9, 4, 7], ["valley", "hill"]))
        self.assertEqual(taken(strip, pleat(2)), ([8, 5, 9], ["valley", "hill"]))
        strip = ([1, 8, 5, 6, 9], ["hill", "valley", "hill", "hill"])
        self.assertEqual(taken(strip, pleat(1)), ([1, 9, 9], ["hill", "hill"]))

    def test_pleat_of_equal_lengths(self):
        self.assertEqual(taken(([4, 4, 4], ["hill", "valley"]), pleat(0)), ([4], []))

    def test_pleat_whose_piece_is_longer_than_1000(self):
        self.assertEqual(taken(([1000, 1, 1000], ["hill", "valley"]), pleat(0)), ([1999], []))
        strip = ([1000, 1, 1000, 1, 1000], ["hill", "valley", "hill", "valley"])
        strip = taken(strip, pleat(2))
        self.assertEqual(strip, ([1000, 1, 1999], ["hill", "valley"]))
        self.assertEqual(taken(strip, pleat(0)), ([2998], []))

    def test_thirty_pieces(self):
        strip = ([7] * 30, ["valley", "hill"] * 14 + ["valley"])
        self.assertEqual(taken(strip, FIRST), ([7] * 29, ["hill", "valley"] * 14))
        self.assertEqual(taken(strip, LAST), ([7] * 29, ["valley", "hill"] * 14))
        self.assertEqual(taken(strip, pleat(27)), ([7] * 28, ["valley", "hill"] * 13 + ["valley"]))

    def test_each_move_that_is_told_can_be_taken(self):
        for strip in small_strips(4, 3):
            for move in moves(strip):
                lengths, marks = taken(strip, move)
                self.assertEqual(len(lengths), 2 if move[0] == "pleat" else 3)
                self.assertEqual(len(marks), len(lengths) - 1)
                self.assertGreaterEqual(min(lengths), 1)


class NoMoves(unittest.TestCase):
    def refused(self, strip, *values):
        before = copy.deepcopy(strip)
        for value in values:
            with self.subTest(kind=type(value)):
                with self.assertRaises(errors.NoFold) as caught:
                    taken(strip, value)
                self.assertIsInstance(caught.exception, errors.FoldError)
                self.assertNotIsInstance(caught.exception, OTHER_ERRORS)
        self.assertEqual(strip, before)

    def test_moves_of_other_strips(self):
        self.refused(([3, 2], ["hill"]), FIRST, pleat(0))
        self.refused(([2, 3], ["hill"]), LAST, pleat(0))
        self.refused(([3, 2, 10], ["valley", "hill"]), FIRST, LAST, pleat(1))
        self.refused(([3, 2, 10], ["valley", "valley"]), FIRST, LAST, pleat(0))

    def test_one_piece_has_none(self):
        self.refused(([5], []), FIRST, LAST, pleat(0), pleat(-1))

    def test_each_move_that_is_not_told(self):
        for strip in small_strips(4, 2):
            every = [FIRST, LAST] + [pleat(crease) for crease in range(-4, 5)]
            self.refused(strip, *[move for move in every if move not in moves(strip)])

    def test_creases_beyond(self):
        self.refused(MANY, pleat(0), pleat(3), pleat(4), pleat(-1), pleat(-2), pleat(-3), pleat(10 ** 5000))

    def test_true_and_false_are_no_creases(self):
        self.refused(MANY, pleat(True))
        self.refused(([3, 2, 10], ["valley", "hill"]), pleat(False))

    def test_creases_of_another_kind(self):
        self.refused(MANY, pleat(1.0), pleat("1"), pleat(None), pleat(b"1"), pleat([1]), pleat((1,)), pleat({}),
                     pleat(Sly()))

    def test_words_of_another_kind(self):
        self.refused(MANY, (b"first",), (None,), (1,), (["first"],), (FIRST,), (Sly(),), (Sly(), 1))

    def test_other_words(self):
        self.refused(MANY, ("First",), ("first ",), ("",), ("fold",), ("middle",), ("pleats", 1), ("Pleat", 1))

    def test_words_too_many_or_too_few(self):
        self.refused(MANY, (), ("pleat",), ("first", 0), ("last", 4), ("first", "last"), ("pleat", 1, 2),
                     ("pleat", 1, None), (1,), (1, "pleat"))

    def test_no_tuple(self):
        self.refused(MANY, ["first"], ["last"], ["pleat", 1], "first", "last", "pleat", b"first", None, 0, 1, True,
                     False, 1.0, {"first": 1}, {"first"}, frozenset(FIRST), object(), tuple, Sly(), iter(FIRST))

    def test_a_move_made_at_run_time_is_one(self):
        self.assertEqual(taken(MANY, tuple(["fir" + "st"])), ([3, 3, 3, 3], ["valley", "hill", "valley"]))
        self.assertEqual(taken(MANY, tuple(["pl" + "eat", int("2")])), ([2, 3, 3], ["valley", "valley"]))


class NothingIsKept(unittest.TestCase):
    """[1]: what is handed in stays, and what is told is the asker's own."""

    def setUp(self):
        self.strip = copy.deepcopy(MANY)

    def test_what_is_handed_in_stays(self):
        for move in moves(self.strip):
            taken(self.strip, move)
            self.assertEqual(self.strip, MANY)

    def test_told_moves_may_be_changed(self):
        told = moves(self.strip)
        told.clear()
        self.assertEqual(moves(self.strip), [FIRST, LAST, pleat(1), pleat(2)])
        self.assertEqual(self.strip, MANY)

    def test_told_moves_of_one_piece_may_be_changed(self):
        moves(([5], [])).append("more")
        self.assertEqual(moves(([5], [])), [])

    def test_a_told_strip_may_be_changed(self):
        for move in moves(self.strip):
            before = copy.deepcopy(taken(self.strip, move))
            lengths, marks = taken(self.strip, move)
            lengths.append(9)
            lengths[0] = 8
            marks.reverse()
            marks.append("hill")
            self.assertEqual(self.strip, MANY)
            self.assertEqual(taken(self.strip, move), before)

    def test_what_was_told_stays_when_what_was_handed_in_changes(self):
        for move in moves(self.strip):
            strip = copy.deepcopy(MANY)
            told = taken(strip, move)
            before = copy.deepcopy(told)
            strip[0].reverse()
            strip[0][1] = 9
            strip[1][0] = "hill"
            strip[1].pop()
            self.assertEqual(told, before)

    def test_a_strip_that_is_changed_is_looked_at_anew(self):
        strip = ([3, 2], ["hill"])
        self.assertEqual(moves(strip), [LAST])
        strip[0][0] = 1
        self.assertEqual(moves(strip), [FIRST])
        with self.assertRaises(errors.NoFold):
            taken(strip, LAST)


if __name__ == "__main__":
    unittest.main()
