"""flatstrip/whole.py: [9], [13], [14], [15], and [1] for them."""

import copy
import itertools
import unittest

from flatstrip import errors, whole
from flatstrip.folding import Fold
from flatstrip.moves import moves, taken
from flatstrip.orders import lies
from flatstrip.strips import over, part, turned
from flatstrip.whole import folds, layered, orders_of, reduced

FIRST, LAST = ("first",), ("last",)
OTHER_ERRORS = (errors.BadStrip, errors.BadOrder, errors.NoFold, errors.NothingDone, errors.BadText)
PLEATED = ([3, 2, 10], ["valley", "hill"])
ROLLED = ([4, 4, 4], ["valley", "valley"])
STIFF = ([3, 2, 3], ["valley", "valley"])
THIRTY = ([7] * 30, ["valley", "hill"] * 14 + ["valley"])
STIFF_THIRTY = ([9] + [7] * 28 + [9], ["hill"] * 29)
# Pieces that a pleat has left, longer than those a strip begins with.
LONG = ([1999, 1, 1999, 1500], ["valley", "hill", "hill"])


def pleat(crease):
    return ("pleat", crease)


def all_marks(creases):
    return [list(marks) for marks in itertools.product(("hill", "valley"), repeat=creases)]


def small_strips(pieces, longest):
    for lengths in itertools.product(range(1, longest + 1), repeat=pieces):
        for marks in all_marks(pieces - 1):
            yield list(lengths), marks


def strips_of_six():
    for lengths in ([1, 1, 1, 1, 1, 1], [2, 1, 1, 2, 1, 2], [3, 2, 1, 3, 2, 1], [2, 3, 2, 2, 4, 2], [4, 2, 3, 1, 2, 4],
                    [1, 2, 3, 3, 2, 1], [5, 3, 2, 4, 1, 6], [3, 3, 2, 2, 3, 3], [1000, 1, 999, 2, 998, 1000]):
        for marks in all_marks(5):
            yield list(lengths), marks


def strips_up_to_six():
    for pieces, longest in ((1, 3), (2, 4), (3, 4), (4, 3), (5, 2)):
        yield from small_strips(pieces, longest)
    yield from strips_of_six()


def long_strips():
    """Yield strips of 7 to 30 pieces, the same ones each time."""
    state = 12345
    for at in range(240):
        pieces = 7 + at % 24
        drawn = []
        for _ in range(2 * pieces - 1):
            state = (state * 1103515245 + 12345) % 2 ** 31
            drawn.append(state >> 16)
        lengths = [1 + number % (1 + at % 3) for number in drawn[:pieces]]
        yield lengths, [("hill", "valley")[number % 2] for number in drawn[pieces:]]


def orders_that_lie(strip):
    """Return what is to be told: each order is tried."""
    orders = [list(order) for order in itertools.permutations(range(len(strip[0])))]
    return [order for order in orders if lies(strip, order)]


def renumbered(order):
    """Return an order of a strip, by the pieces' numbers in the strip turned end for end."""
    return [len(order) - 1 - piece for piece in order]


class TheInterface(unittest.TestCase):
    def test_the_functions_are_defined_here(self):
        for name in ("reduced", "folds", "layered", "orders_of"):
            with self.subTest(name=name):
                self.assertEqual(getattr(whole, name).__module__, "flatstrip.whole")


class Reduced(unittest.TestCase):
    def test_one_piece(self):
        self.assertEqual(reduced(([5], [])), ([], ([5], [])))

    def test_first_stands_ahead_of_last_and_of_pleats(self):
        self.assertEqual(reduced(([4, 4], ["hill"])), ([FIRST], ([4], [])))
        self.assertEqual(reduced(([4, 4, 4], ["hill", "valley"])), ([FIRST, FIRST], ([4], [])))

    def test_last_stands_ahead_of_pleats(self):
        strip = ([3, 2, 10, 5], ["valley", "hill", "valley"])
        self.assertEqual(reduced(strip), ([LAST, pleat(0)], ([11], [])))

    def test_by_moves_that_come_about_behind_others(self):
        strip = ([1, 5, 4, 2, 3], ["hill", "hill", "hill", "valley"])
        self.assertEqual(reduced(strip), ([FIRST, pleat(1), FIRST], ([5], [])))
        self.assertEqual(reduced(([1, 5, 4, 2], ["hill"] * 3)), ([FIRST, LAST, LAST], ([5], [])))

    def test_pleats_by_their_creases(self):
        strip = ([9, 5, 6, 5, 9], ["valley", "hill", "valley", "hill"])
        self.assertEqual(reduced(strip), ([pleat(0), pleat(0)], ([14], [])))

    def test_strips_that_do_not_fold_are_left(self):
        self.assertEqual(reduced(STIFF), ([], STIFF))
        self.assertEqual(reduced(([1, 3, 2, 3], ["hill", "valley", "valley"])), ([FIRST], STIFF))
        strip = ([4, 3, 4, 5, 9, 1], ["hill", "hill", "valley", "hill", "hill"])
        self.assertEqual(reduced(strip), ([LAST], ([4, 3, 4, 5, 9], ["hill", "hill", "valley", "hill"])))

    def test_a_pleat_longer_than_1000(self):
        strip = ([1000, 1, 1000, 1, 1000], ["hill", "valley", "hill", "valley"])
        self.assertEqual(reduced(strip), ([pleat(0), pleat(0)], ([2998], [])))
        self.assertEqual(reduced(LONG), ([LAST, pleat(0)], ([3997], [])))

    def test_thirty_pieces(self):
        self.assertEqual(reduced(THIRTY), ([FIRST] * 29, ([7], [])))
        self.assertEqual(reduced(STIFF_THIRTY), ([], STIFF_THIRTY))

    def test_each_time_by_the_first_of_the_moves(self):
        for strip in strips_up_to_six():
            done, left = reduced(strip)
            here = strip
            for move in done:
                self.assertEqual(moves(here)[0], move)
                here = taken(here, move)
            self.assertEqual((moves(here), here), ([], left))

    def test_kinds(self):
        told = reduced(PLEATED)
        self.assertEqual([type(told), type(told[0]), type(told[1])], [tuple, list, tuple])
        self.assertEqual([type(rows) for rows in told[1]], [list, list])


class Folds(unittest.TestCase):
    def test_ordinary(self):
        for strip in (PLEATED, ROLLED, ([3, 2], ["hill"]), ([1, 2, 1], ["hill", "hill"]), LONG):
            self.assertIs(folds(strip), True)

    def test_strips_that_do_not(self):
        for strip in (STIFF, ([3, 2, 10], ["hill", "hill"]), ([1, 3, 2, 3], ["hill", "valley", "valley"]),
                      ([1999, 1, 1999], ["hill", "hill"])):
            self.assertIs(folds(strip), False)

    def test_one_piece(self):
        self.assertIs(folds(([5], [])), True)

    def test_thirty_pieces(self):
        self.assertIs(folds(THIRTY), True)
        self.assertIs(folds(STIFF_THIRTY), False)
        self.assertIs(folds(([1000, 1] * 15, ["hill", "valley"] * 14 + ["hill"])), True)
        self.assertIs(folds(([1000, 1] * 15, ["hill"] * 29)), False)

    def test_somewhat_more_than_thirty_pieces(self):
        self.assertIs(folds(([7] * 40, ["hill"] * 39)), True)
        self.assertIs(folds(([9] + [7] * 40 + [9], ["hill"] * 41)), False)

    def test_equal_lengths_always_fold(self):
        for marks in all_marks(7):
            self.assertIs(folds(([4] * 8, marks)), True)

    def test_pieces_that_grow_always_fold(self):
        for marks in all_marks(7):
            self.assertIs(folds(([1, 2, 3, 4, 5, 6, 7, 8], marks)), True)

    def test_true_just_where_an_order_lies(self):
        told = [0, 0]
        for strip in strips_up_to_six():
            orders = orders_of(strip)
            self.assertIs(folds(strip), orders != [], strip)
            told[folds(strip)] += 1
        self.assertGreater(min(told), 100)


class WhicheverMovesAreDone(unittest.TestCase):
    """[9]"""

    def ends(self, fold):
        """Yield of how many pieces the strip is where there is no move, for all ways to get there."""
        here = fold.here()
        found = moves(here)
        if not found:
            yield len(here[0])
        for move in found:
            fold.take(move)
            yield from self.ends(fold)
            fold.back()

    def test_the_strip_behind_each_move_folds_just_where_the_strip_does(self):
        for strip in itertools.chain(strips_up_to_six(), long_strips()):
            for move in moves(strip):
                self.assertIs(folds(taken(strip, move)), folds(strip), (strip, move))

    def test_one_piece_is_left_just_where_the_strip_folds(self):
        for pieces, longest in ((1, 2), (2, 3), (3, 4), (4, 3), (5, 2)):
            for strip in small_strips(pieces, longest):
                left = set(many == 1 for many in self.ends(Fold(strip)))
                self.assertEqual(left, {orders_of(strip) != []}, strip)


class Layered(unittest.TestCase):
    def test_the_only_order_that_lies(self):
        self.assertEqual(layered(([4, 4], ["valley"])), [0, 1])
        self.assertEqual(layered(([4, 4], ["hill"])), [1, 0])
        self.assertEqual(layered(([2, 4], ["valley"])), [0, 1])
        self.assertEqual(layered(([4, 2], ["hill"])), [1, 0])
        self.assertEqual(layered(PLEATED), [0, 1, 2])
        self.assertEqual(layered(over(PLEATED)), [2, 1, 0])
        self.assertEqual(layered(([1, 2, 3], ["valley", "valley"])), [2, 0, 1])
        self.assertEqual(layered(([1, 5, 4, 6, 2], ["valley", "valley", "hill", "hill"])), [3, 4, 2, 0, 1])

    def test_one_piece(self):
        self.assertEqual(layered(([5], [])), [0])

    def test_none(self):
        for strip in (STIFF, ([1, 3, 2, 3], ["hill", "valley", "valley"]), STIFF_THIRTY):
            self.assertIsNone(layered(strip))

    def test_one_of_the_orders_that_lie(self):
        for strip in strips_up_to_six():
            told, orders = layered(strip), orders_of(strip)
            if orders:
                self.assertIn(told, orders, strip)
            else:
                self.assertIsNone(told, strip)

    def test_more_than_six_pieces(self):
        self.assertEqual(layered(THIRTY), list(range(30)))
        told = [0, 0]
        for strip in long_strips():
            order = layered(strip)
            self.assertIs(order is not None, folds(strip))
            self.assertTrue(order is None or lies(strip, order), strip)
            told[folds(strip)] += 1
        self.assertGreater(min(told), 50)

    def test_pieces_longer_than_a_strip_begins_with(self):
        self.assertTrue(lies(LONG, layered(LONG)))
        self.assertIsNone(layered(([1999, 1, 1999], ["hill", "hill"])))

    def test_kinds(self):
        self.assertEqual([type(layered(PLEATED))] + [type(piece) for piece in layered(PLEATED)], [list, int, int, int])


class OrdersOf(unittest.TestCase):
    def test_by_hand(self):
        self.assertEqual(orders_of(([5], [])), [[0]])
        self.assertEqual(orders_of(([4, 4], ["valley"])), [[0, 1]])
        self.assertEqual(orders_of(([4, 4], ["hill"])), [[1, 0]])
        self.assertEqual(orders_of(PLEATED), [[0, 1, 2]])
        self.assertEqual(orders_of(ROLLED), [[0, 2, 1], [2, 0, 1]])
        self.assertEqual(orders_of(STIFF), [])

    def test_rising_as_lists_do(self):
        strip = ([4, 4, 4, 4], ["valley", "valley", "hill"])
        self.assertEqual(orders_of(strip), [[0, 3, 2, 1], [3, 2, 0, 1]])
        for strip in strips_up_to_six():
            told = orders_of(strip)
            self.assertEqual(told, sorted(told))

    def test_all_that_lie_and_no_other(self):
        for pieces, longest in ((1, 3), (2, 4), (3, 4), (4, 2)):
            for strip in small_strips(pieces, longest):
                self.assertEqual(orders_of(strip), orders_that_lie(strip), strip)
        for lengths in ([2, 1, 1, 2, 1], [3, 3, 2, 2, 3], [1, 2, 2, 3, 1]):
            for marks in all_marks(4):
                self.assertEqual(orders_of((lengths, marks)), orders_that_lie((lengths, marks)))

    def test_all_that_lie_of_six_pieces(self):
        for lengths in ([7] * 6, [2, 1, 1, 2, 1, 2]):
            for marks in all_marks(5)[::5]:
                self.assertEqual(orders_of((lengths, marks)), orders_that_lie((lengths, marks)))

    def test_as_many_as_rows_of_stamps_can_be_folded(self):
        for pieces, many in ((1, 1), (2, 2), (3, 6), (4, 16), (5, 50), (6, 144)):
            self.assertEqual(sum(len(orders_of(([7] * pieces, marks))) for marks in all_marks(pieces - 1)), many)

    def test_six_pieces_are_not_too_many(self):
        self.assertEqual(orders_of(([7] * 6, ["valley", "hill"] * 2 + ["valley"])), [[0, 1, 2, 3, 4, 5]])
        self.assertEqual(orders_of(([9, 7, 7, 7, 7, 9], ["hill"] * 5)), [])

    def test_pieces_longer_than_a_strip_begins_with(self):
        self.assertEqual(orders_of(([2500], [])), [[0]])
        self.assertEqual(orders_of(([1999, 1, 1999], ["hill", "valley"])), [[2, 1, 0]])
        self.assertEqual(orders_of(([1999, 1, 1999], ["hill", "hill"])), [])

    def test_more_than_six_pieces_are_too_many(self):
        for strip in (([7] * 7, ["hill"] * 6), ([9, 7, 7, 7, 7, 7, 9], ["hill"] * 6), THIRTY, STIFF_THIRTY,
                      ([7] * 31, ["hill"] * 30), ([2500] * 7, ["valley"] * 6)):
            before = copy.deepcopy(strip)
            with self.assertRaises(errors.TooMany) as caught:
                orders_of(strip)
            self.assertIsInstance(caught.exception, errors.FoldError)
            self.assertNotIsInstance(caught.exception, OTHER_ERRORS)
            self.assertEqual(strip, before)

    def test_kinds(self):
        told = orders_of(ROLLED)
        self.assertEqual([type(told)] + [type(order) for order in told], [list] * 3)
        self.assertEqual([type(piece) for piece in told[0]], [int] * 3)


class PartsAndStripsTheOtherWayAbout(unittest.TestCase):
    """[15]"""

    def test_a_part_of_a_strip_that_folds_folds(self):
        for strip in itertools.chain(strips_up_to_six(), long_strips()):
            if folds(strip):
                for first, last in itertools.combinations_with_replacement(range(len(strip[0])), 2):
                    self.assertIs(folds(part(strip, first, last)), True, (strip, first, last))

    def test_turned_over_and_turned_end_for_end(self):
        for strip in itertools.chain(strips_up_to_six(), long_strips()):
            self.assertIs(folds(over(strip)), folds(strip), strip)
            self.assertIs(folds(turned(strip)), folds(strip), strip)

    def test_orders_of_the_strip_turned_over(self):
        for strip in strips_up_to_six():
            self.assertEqual(orders_of(over(strip)), sorted(order[::-1] for order in orders_of(strip)), strip)

    def test_orders_of_the_strip_turned_end_for_end(self):
        for strip in strips_up_to_six():
            if len(strip[0]) % 2 == 1:
                told = sorted(renumbered(order) for order in orders_of(strip))
            else:
                told = sorted(renumbered(order)[::-1] for order in orders_of(strip))
            self.assertEqual(orders_of(turned(strip)), told, strip)


class NothingIsKept(unittest.TestCase):
    """[1]: what is handed in stays, and what is told is the asker's own."""

    STRIPS = (([5], []), PLEATED, ROLLED, STIFF, ([1, 3, 2, 3], ["hill", "valley", "valley"]))

    def test_what_is_handed_in_stays(self):
        for strip in self.STRIPS:
            before = copy.deepcopy(strip)
            for ask in (reduced, folds, layered, orders_of):
                ask(strip)
                self.assertEqual(strip, before)

    def spoiled(self, told):
        if isinstance(told, (list, tuple)):
            for row in told:
                self.spoiled(row)
        if isinstance(told, list):
            told.reverse()
            told.append(9)

    def test_what_is_told_may_be_changed(self):
        for strip in self.STRIPS:
            before = copy.deepcopy(strip)
            for ask in (reduced, layered, orders_of):
                told = ask(strip)
                kept = copy.deepcopy(told)
                self.spoiled(told)
                self.assertEqual(strip, before)
                self.assertEqual(ask(strip), kept)

    def test_what_was_told_stays_when_what_was_handed_in_changes(self):
        for strip in self.STRIPS:
            for ask in (reduced, layered, orders_of):
                handed = copy.deepcopy(strip)
                told = ask(handed)
                kept = copy.deepcopy(told)
                self.spoiled(handed)
                self.assertEqual(told, kept)

    def test_the_orders_that_are_told_have_nothing_in_common(self):
        told = orders_of(ROLLED)
        told[0].append(9)
        self.assertEqual(told[1], [2, 0, 1])

    def test_a_strip_that_is_changed_is_looked_at_anew(self):
        strip = copy.deepcopy(STIFF)
        self.assertIs(folds(strip), False)
        strip[1][1] = "hill"
        self.assertIs(folds(strip), True)
        self.assertEqual(layered(strip), [0, 1, 2])
        self.assertEqual(orders_of(strip), [[0, 1, 2]])


if __name__ == "__main__":
    unittest.main()
