"""flatstrip/folding.py: [10], [11], [12], and [1] for them."""

import copy
import itertools
import unittest

from flatstrip import errors, folding
from flatstrip.folding import Fold
from flatstrip.moves import moves, taken
from flatstrip.orders import lies
from flatstrip.strips import part

FIRST, LAST = ("first",), ("last",)
OTHER_ERRORS = (errors.BadStrip, errors.BadOrder, errors.TooMany, errors.BadText)
# Piece 0 and piece 4 are laid on their neighbours, then all is one pleat.
FIVE = ([1, 5, 4, 6, 2], ["valley", "valley", "hill", "hill"])
FIVE_DONE = [FIRST, LAST, ("pleat", 0)]


def pleat(crease):
    return ("pleat", crease)


def small_strips(pieces, longest):
    for lengths in itertools.product(range(1, longest + 1), repeat=pieces):
        for marks in itertools.product(("hill", "valley"), repeat=pieces - 1):
            yield list(lengths), list(marks)


def folded(strip, *done):
    fold = Fold(strip)
    for move in done:
        fold.take(move)
    return fold


def told(fold):
    return fold.here(), fold.done(), fold.layers()


class TheInterface(unittest.TestCase):
    def test_the_class_is_defined_here(self):
        self.assertEqual(Fold.__module__, folding.__name__)

    def test_each_method_is_defined_in_the_class_itself(self):
        for name in ("here", "done", "layers", "take", "back"):
            with self.subTest(name=name):
                self.assertIn(name, vars(Fold))


class TheBeginning(unittest.TestCase):
    def test_each_piece_is_a_layer_of_its_own(self):
        self.assertEqual(told(Fold(FIVE)), (FIVE, [], [[0], [1], [2], [3], [4]]))

    def test_one_piece(self):
        self.assertEqual(told(Fold(([5], []))), (([5], []), [], [[0]]))

    def test_thirty_pieces(self):
        strip = ([7] * 30, ["hill"] * 29)
        self.assertEqual(told(Fold(strip)), (strip, [], [[piece] for piece in range(30)]))

    def test_a_strip_that_does_not_fold(self):
        strip = ([3, 2, 3], ["valley", "valley"])
        self.assertEqual(told(Fold(strip)), (strip, [], [[0], [1], [2]]))

    def test_a_piece_longer_than_a_strip_begins_with(self):
        strip = ([2500, 1999], ["hill"])
        self.assertEqual(told(Fold(strip)), (strip, [], [[0], [1]]))

    def test_kinds(self):
        fold = Fold(FIVE)
        here = fold.here()
        self.assertEqual([type(here), type(here[0]), type(here[1])], [tuple, list, list])
        self.assertEqual([type(fold.done()), type(fold.layers()), type(fold.layers()[0])], [list] * 3)


class Layers(unittest.TestCase):
    def layered(self, strip, done, layers):
        self.assertEqual(folded(strip, *done).layers(), layers)

    def test_first_at_a_valley_lies_above(self):
        self.layered(([2, 3], ["valley"]), [FIRST], [[1, 0]])
        self.layered(([2, 3, 1], ["valley", "hill"]), [FIRST], [[1, 0], [2]])

    def test_first_at_a_hill_lies_beneath(self):
        self.layered(([2, 3], ["hill"]), [FIRST], [[0, 1]])
        self.layered(([2, 3, 1], ["hill", "valley"]), [FIRST], [[0, 1], [2]])

    def test_last_at_a_valley_lies_above(self):
        self.layered(([3, 2], ["valley"]), [LAST], [[0, 1]])
        self.layered(([1, 3, 2], ["hill", "valley"]), [LAST], [[0], [1, 2]])

    def test_last_at_a_hill_lies_beneath(self):
        self.layered(([3, 2], ["hill"]), [LAST], [[1, 0]])
        self.layered(([1, 3, 2], ["valley", "hill"]), [LAST], [[0], [2, 1]])

    def test_equal_lengths(self):
        self.layered(([4, 4], ["valley"]), [FIRST], [[1, 0]])
        self.layered(([4, 4], ["valley"]), [LAST], [[0, 1]])

    def test_pleat_from_a_valley_goes_up(self):
        self.layered(([3, 2, 10], ["valley", "hill"]), [pleat(0)], [[0, 1, 2]])
        self.layered(([9, 5, 5, 5, 9], ["hill", "valley", "hill", "valley"]), [pleat(1)], [[0], [1, 2, 3], [4]])

    def test_pleat_from_a_hill_goes_down(self):
        self.layered(([3, 2, 10], ["hill", "valley"]), [pleat(0)], [[2, 1, 0]])
        self.layered(([9, 5, 5, 5, 9], ["valley", "hill", "valley", "hill"]), [pleat(1)], [[0], [3, 2, 1], [4]])

    def test_pleats_at_the_beginning_and_at_the_end(self):
        strip = ([8, 5, 6, 4, 7], ["valley", "hill", "valley", "hill"])
        self.layered(strip, [pleat(0)], [[0, 1, 2], [3], [4]])
        self.layered(strip, [pleat(2)], [[0], [1], [2, 3, 4]])

    def test_several_layers_laid_from_the_first_end_stand_the_other_way_about(self):
        self.layered(([1, 2, 3], ["valley", "valley"]), [FIRST, FIRST], [[2, 0, 1]])
        self.layered(([1, 2, 3], ["valley", "hill"]), [FIRST, FIRST], [[0, 1, 2]])
        self.layered(([1, 2, 3], ["hill", "valley"]), [FIRST, FIRST], [[2, 1, 0]])
        self.layered(([1, 2, 3], ["hill", "hill"]), [FIRST, FIRST], [[1, 0, 2]])

    def test_several_layers_laid_from_the_last_end_stand_the_other_way_about(self):
        self.layered(([3, 2, 1], ["valley", "valley"]), [LAST, LAST], [[0, 2, 1]])
        self.layered(([3, 2, 1], ["hill", "valley"]), [LAST, LAST], [[2, 1, 0]])
        self.layered(([3, 2, 1], ["valley", "hill"]), [LAST, LAST], [[0, 1, 2]])
        self.layered(([3, 2, 1], ["hill", "hill"]), [LAST, LAST], [[1, 2, 0]])

    def test_an_end_laid_on_several_layers(self):
        strip = ([1, 4, 2, 3], ["valley", "valley", "hill"])
        self.layered(strip, [pleat(1), FIRST], [[1, 2, 3, 0]])
        strip = ([1, 4, 2, 3], ["hill", "valley", "hill"])
        self.layered(strip, [pleat(1), FIRST], [[0, 1, 2, 3]])
        strip = ([3, 2, 4, 1], ["hill", "valley", "valley"])
        self.layered(strip, [pleat(0), LAST], [[2, 1, 0, 3]])
        strip = ([3, 2, 4, 1], ["hill", "valley", "hill"])
        self.layered(strip, [pleat(0), LAST], [[3, 2, 1, 0]])

    def test_the_middle_of_a_pleat_stands_the_other_way_about(self):
        lengths = [9, 3, 1, 3, 9]
        self.layered((lengths, ["valley", "valley", "hill", "hill"]), [pleat(1), pleat(0)], [[0, 3, 2, 1, 4]])
        self.layered((lengths, ["valley", "hill", "valley", "hill"]), [pleat(1), pleat(0)], [[0, 1, 2, 3, 4]])
        self.layered((lengths, ["hill", "hill", "valley", "valley"]), [pleat(1), pleat(0)], [[4, 1, 2, 3, 0]])
        self.layered((lengths, ["hill", "valley", "hill", "valley"]), [pleat(1), pleat(0)], [[4, 3, 2, 1, 0]])

    def test_the_outer_two_of_a_pleat_stand_as_they_are(self):
        self.layered(FIVE, FIVE_DONE, [[1, 0, 2, 4, 3]])
        turned_over = ([1, 5, 4, 6, 2], ["hill", "hill", "valley", "valley"])
        self.layered(turned_over, FIVE_DONE, [[3, 4, 2, 0, 1]])

    def test_a_pleat_longer_than_1000(self):
        fold = folded(([1000, 1, 1000], ["hill", "valley"]), pleat(0))
        self.assertEqual(told(fold), (([1999], []), [pleat(0)], [[2, 1, 0]]))

    def test_thirty_pieces(self):
        strip = ([7] * 30, ["valley", "hill"] * 14 + ["valley"])
        self.layered(strip, [LAST] * 29, [list(range(30))])
        self.layered(strip, [FIRST] * 29, [list(range(29, -1, -1))])
        self.layered(strip, [pleat(0)] * 14, [list(range(29)), [29]])
        self.layered(strip, [pleat(0)] * 14 + [LAST], [list(range(30))])


class Taking(unittest.TestCase):
    def test_tells_nothing(self):
        fold = Fold(FIVE)
        self.assertEqual([fold.take(move) for move in FIVE_DONE], [None] * 3)

    def test_the_strip_and_the_moves_by_now(self):
        fold = Fold(FIVE)
        fold.take(FIRST)
        self.assertEqual(fold.here(), ([5, 4, 6, 2], ["valley", "hill", "hill"]))
        self.assertEqual(fold.done(), [FIRST])
        fold.take(LAST)
        self.assertEqual(fold.here(), ([5, 4, 6], ["valley", "hill"]))
        self.assertEqual(fold.done(), [FIRST, LAST])
        fold.take(pleat(0))
        self.assertEqual(told(fold), (([7], []), FIVE_DONE, [[1, 0, 2, 4, 3]]))

    def test_two_folds_of_a_strip_have_nothing_in_common(self):
        one, other = Fold(FIVE), Fold(FIVE)
        one.take(FIRST)
        other.take(LAST)
        self.assertEqual(one.done(), [FIRST])
        self.assertEqual(other.done(), [LAST])
        self.assertEqual(other.here(), ([1, 5, 4, 6], ["valley", "valley", "hill"]))


class NoMoves(unittest.TestCase):
    def refused(self, fold, *values):
        before = told(fold)
        for value in values:
            with self.subTest(kind=type(value)):
                with self.assertRaises(errors.NoFold) as caught:
                    fold.take(value)
                self.assertIsInstance(caught.exception, errors.FoldError)
                self.assertNotIsInstance(caught.exception, OTHER_ERRORS + (errors.NothingDone,))
                self.assertEqual(told(fold), before)

    def test_moves_of_other_strips(self):
        self.refused(Fold(([3, 2, 10], ["valley", "hill"])), FIRST, LAST, pleat(1), pleat(-1))
        self.refused(Fold(([3, 2, 3], ["valley", "valley"])), FIRST, LAST, pleat(0))

    def test_one_piece_has_none(self):
        self.refused(Fold(([5], [])), FIRST, LAST, pleat(0))

    def test_moves_of_the_strip_as_it_was(self):
        self.refused(folded(FIVE, FIRST), FIRST)
        self.refused(folded(FIVE, *FIVE_DONE), FIRST, LAST, pleat(0))
        self.refused(folded(([9, 5, 6, 5, 9], ["valley", "hill", "valley", "hill"]), pleat(0)), pleat(2))

    def test_moves_of_the_strip_as_it_will_be(self):
        self.refused(Fold(FIVE), pleat(0))
        self.refused(Fold(([9, 5, 6, 5, 9], ["valley", "hill", "hill", "valley"])), FIRST, pleat(1))

    def test_true_and_false_are_no_creases(self):
        self.refused(Fold(([3, 2, 10], ["valley", "hill"])), pleat(False), ("pleat", 0.0))
        self.refused(Fold(([9, 5, 5, 5, 9], ["hill", "valley", "hill", "valley"])), pleat(True), ("pleat", 1.0))

    def test_no_moves_at_all(self):
        self.refused(Fold(FIVE), ["first"], "first", None, 0, True, (), ("pleat",), ("first", 0), (b"first",),
                     {"first": 1}, {"first"}, object(), Fold, Fold(FIVE))

    def test_a_refused_move_between_moves(self):
        fold = folded(FIVE, FIRST)
        self.refused(fold, pleat(7))
        fold.take(LAST)
        self.refused(fold, ["last"])
        self.assertEqual(fold.back(), LAST)
        self.refused(fold, pleat(1))
        self.assertEqual(fold.back(), FIRST)
        self.assertEqual(told(fold), told(Fold(FIVE)))


class TakingBack(unittest.TestCase):
    def nothing_done(self, fold):
        before = told(fold)
        with self.assertRaises(errors.NothingDone) as caught:
            fold.back()
        self.assertIsInstance(caught.exception, errors.FoldError)
        self.assertNotIsInstance(caught.exception, OTHER_ERRORS + (errors.NoFold,))
        self.assertEqual(told(fold), before)

    def test_one_after_the_other_to_the_beginning(self):
        fold = Fold(FIVE)
        states = []
        for move in FIVE_DONE:
            states.append(told(fold))
            fold.take(move)
        for move in reversed(FIVE_DONE):
            self.assertEqual(fold.back(), move)
            self.assertEqual(told(fold), states.pop())
        self.assertEqual(told(fold), (FIVE, [], [[0], [1], [2], [3], [4]]))
        self.nothing_done(fold)

    def test_nothing_to_take_back(self):
        self.nothing_done(Fold(FIVE))
        self.nothing_done(Fold(([5], [])))
        self.nothing_done(Fold(([3, 2, 3], ["valley", "valley"])))

    def test_nothing_to_take_back_behind_a_move_that_was_refused(self):
        fold = Fold(FIVE)
        with self.assertRaises(errors.NoFold):
            fold.take(pleat(0))
        self.nothing_done(fold)

    def test_on_from_the_beginning_another_way(self):
        fold = folded(FIVE, FIRST, LAST)
        fold.back()
        fold.back()
        self.nothing_done(fold)
        fold.take(LAST)
        self.assertEqual(told(fold), (([1, 5, 4, 6], FIVE[1][:3]), [LAST], [[0], [1], [2], [4, 3]]))
        fold.take(FIRST)
        fold.take(pleat(0))
        self.assertEqual(told(fold), (([7], []), [LAST, FIRST, pleat(0)], [[1, 0, 2, 4, 3]]))

    def test_the_move_that_is_told_is_one(self):
        fold = folded(FIVE, *FIVE_DONE)
        move = fold.back()
        self.assertEqual([type(move), type(move[0]), type(move[1])], [tuple, str, int])
        fold.take(move)
        self.assertEqual(fold.layers(), [[1, 0, 2, 4, 3]])

    def test_thirty_pieces(self):
        strip = ([7] * 30, ["valley", "hill"] * 14 + ["valley"])
        fold = folded(strip, *[LAST] * 29)
        self.assertEqual([fold.back() for _ in range(29)], [LAST] * 29)
        self.assertEqual(told(fold), told(Fold(strip)))
        self.nothing_done(fold)


class WhateverIsDone(unittest.TestCase):
    """[12], and the states of a Fold, over all ways to fold small strips."""

    def walked(self, strip, fold, check):
        check(strip, fold)
        here = fold.here()
        for move in moves(here):
            before = told(fold)
            fold.take(move)
            self.assertEqual(fold.here(), taken(here, move))
            self.assertEqual(fold.done(), before[1] + [move])
            self.walked(strip, fold, check)
            self.assertEqual(fold.back(), move)
            self.assertEqual(told(fold), before)

    def rows_that_lie(self, strip, fold):
        next_one = 0
        for layers in fold.layers():
            row = sorted(layers)
            self.assertEqual(row, list(range(next_one, next_one + len(row))))
            of_part = part(strip, row[0], row[-1])
            order = [piece - row[0] for piece in layers]
            self.assertTrue(lies(of_part, order) or lies(of_part, order[::-1]), (strip, fold.done()))
            next_one += len(row)
        self.assertEqual(next_one, len(strip[0]))
        self.assertEqual(len(fold.layers()), len(fold.here()[0]))

    def test_layers_stand_in_rows_that_lie(self):
        for pieces, longest in ((1, 2), (2, 3), (3, 4), (4, 3), (5, 2)):
            for strip in small_strips(pieces, longest):
                self.walked(strip, Fold(strip), self.rows_that_lie)

    def test_layers_stand_in_rows_that_lie_of_six_pieces(self):
        for lengths in ([3, 2, 1, 3, 2, 1], [2, 2, 1, 2, 2, 3], [5, 3, 2, 4, 1, 6]):
            for marks in itertools.product(("hill", "valley"), repeat=5):
                strip = (lengths, list(marks))
                self.walked(strip, Fold(strip), self.rows_that_lie)


class NothingIsKept(unittest.TestCase):
    """[1]: what is handed in stays, and what is told is the asker's own."""

    def setUp(self):
        self.strip = copy.deepcopy(FIVE)
        self.fold = Fold(self.strip)

    def test_what_is_handed_in_stays(self):
        for move in FIVE_DONE:
            self.fold.take(move)
            self.assertEqual(self.strip, FIVE)
        for _ in FIVE_DONE:
            self.fold.back()
            self.assertEqual(self.strip, FIVE)

    def test_the_strip_it_was_made_of_may_be_changed(self):
        self.strip[0].reverse()
        self.strip[0].append(9)
        self.strip[1].clear()
        self.assertEqual(told(self.fold), told(Fold(FIVE)))
        self.fold.take(FIRST)
        self.strip[0].clear()
        self.assertEqual(told(self.fold), told(folded(FIVE, FIRST)))
        self.fold.back()
        self.assertEqual(told(self.fold), told(Fold(FIVE)))

    def spoiled(self, fold):
        here, done, layers = told(fold)
        here[0].append(9)
        here[0][0] = 7
        here[1].clear()
        done.append(LAST)
        done.reverse()
        for row in layers:
            row.append(9)
            row.reverse()
        layers.clear()

    def test_what_is_told_may_be_changed(self):
        for many in range(4):
            fold = folded(FIVE, *FIVE_DONE[:many])
            before = told(fold)
            self.spoiled(fold)
            self.assertEqual(told(fold), before)
        self.assertEqual(self.strip, FIVE)

    def test_what_is_told_may_be_changed_between_moves(self):
        for move in FIVE_DONE:
            self.spoiled(self.fold)
            self.fold.take(move)
        self.spoiled(self.fold)
        self.assertEqual(told(self.fold), (([7], []), FIVE_DONE, [[1, 0, 2, 4, 3]]))
        for move in reversed(FIVE_DONE):
            self.spoiled(self.fold)
            self.assertEqual(self.fold.back(), move)
        self.assertEqual(told(self.fold), told(Fold(FIVE)))
        self.assertEqual(self.strip, FIVE)

    def test_what_was_told_stays_when_moves_are_done_and_taken_back(self):
        asked = [(told(self.fold), copy.deepcopy(told(self.fold)))]
        for move in FIVE_DONE:
            self.fold.take(move)
            asked.append((told(self.fold), copy.deepcopy(told(self.fold))))
        for _ in FIVE_DONE:
            self.fold.back()
            asked.append((told(self.fold), copy.deepcopy(told(self.fold))))
        for now, before in asked:
            self.assertEqual(now, before)

    def test_what_one_fold_told_may_be_handed_to_another(self):
        here = self.fold.here()
        other = Fold(here)
        other.take(LAST)
        here[0].clear()
        self.assertEqual(told(self.fold), told(Fold(FIVE)))
        self.assertEqual(told(other), told(folded(FIVE, LAST)))


if __name__ == "__main__":
    unittest.main()
