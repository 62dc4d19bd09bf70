"""flatstrip/orders.py: [5], [6], and [1] for it."""

import copy
import itertools
import unittest

from flatstrip import errors, orders
from flatstrip.orders import faults, lies, need_order, over_place
from flatstrip.strips import over

OTHER_ERRORS = (errors.BadStrip, errors.NoFold, errors.NothingDone, errors.TooMany, errors.BadText)
# Piece 4 runs past the creases 0 and 2 in place 2, and ends at the creases 1 and 3 in place 0.
TANGLE = ([2, 2, 2, 2, 4], ["hill", "valley", "hill", "valley"])
TANGLED = [0, 2, 4, 1, 3]


def all_marks(creases):
    return [list(marks) for marks in itertools.product(("hill", "valley"), repeat=creases)]


def all_orders(pieces):
    return [list(order) for order in itertools.permutations(range(pieces))]


class TheInterface(unittest.TestCase):
    def test_the_functions_are_defined_here(self):
        for name in ("need_order", "faults", "lies", "over_place"):
            with self.subTest(name=name):
                self.assertEqual(getattr(orders, name).__module__, "flatstrip.orders")


class OrdersThatAre(unittest.TestCase):
    def test_each_order_of_three_pieces(self):
        for order in all_orders(3):
            self.assertIs(need_order(([3, 2, 10], ["valley", "hill"]), order), True)

    def test_one_piece(self):
        self.assertIs(need_order(([5], []), [0]), True)

    def test_thirty_pieces(self):
        strip = ([1] * 30, ["hill"] * 29)
        self.assertIs(need_order(strip, list(range(29, -1, -1))), True)

    def test_an_order_with_faults_is_an_order(self):
        self.assertIs(need_order(TANGLE, TANGLED), True)


class OrdersThatAreNone(unittest.TestCase):
    ASKED = (need_order, faults, lies, lambda strip, order: over_place(strip, order, 0))

    def refused(self, strip, *values):
        for value in values:
            for at, ask in enumerate(self.ASKED):
                with self.subTest(at=at, kind=type(value)):
                    with self.assertRaises(errors.BadOrder) as caught:
                        ask(strip, value)
                    self.assertIsInstance(caught.exception, errors.FoldError)
                    self.assertIsInstance(caught.exception, ValueError)
                    self.assertNotIsInstance(caught.exception, OTHER_ERRORS)

    def test_a_piece_more(self):
        self.refused(([3, 2], ["hill"]), [0, 1, 2], [0, 1, 1], [0, 0, 1])
        self.refused(([5], []), [0, 1], [0, 0])

    def test_a_piece_less(self):
        self.refused(([3, 2], ["hill"]), [0], [1], [])
        self.refused(([5], []), [])

    def test_a_piece_twice(self):
        self.refused(([3, 2, 10], ["valley", "hill"]), [0, 0, 1], [2, 1, 2], [1, 1, 1])

    def test_a_piece_beyond(self):
        self.refused(([3, 2], ["hill"]), [0, 2], [1, 2], [2, 1], [0, 10 ** 5000])
        self.refused(([5], []), [1])

    def test_a_negative_piece(self):
        self.refused(([3, 2], ["hill"]), [0, -1], [-1, 0], [-1, -2], [1, -2])
        self.refused(([5], []), [-1])

    def test_true_and_false_are_no_pieces(self):
        self.refused(([3, 2], ["hill"]), [False, True], [0, True], [True, 0], [False, 1], [1, False])
        self.refused(([5], []), [False])

    def test_pieces_of_another_kind(self):
        for piece in (1.0, "1", None, b"1", [1], (1,), {}, object()):
            self.refused(([3, 2], ["hill"]), [0, piece], [piece, 0], [piece, piece])

    def test_no_list(self):
        self.refused(([3, 2], ["hill"]), (0, 1), "01", None, 0, 1, True, {0: 1, 1: 0}, {0, 1}, range(2), b"ab",
                     iter([0, 1]), object(), list)
        self.refused(([5], []), (0,), "0", None, 0, False, {0: 0})

    def test_refused_before_any_place_is_looked_at(self):
        for place in (-10 ** 40, -1, 0, 3, 10 ** 40):
            with self.assertRaises(errors.BadOrder):
                over_place(([3, 2], ["hill"]), [0, 0], place)

    def test_what_is_refused_is_not_changed(self):
        order = [1, 1]
        self.refused(([3, 2], ["hill"]), order)
        self.assertEqual(order, [1, 1])


class FaultsOfMarks(unittest.TestCase):
    def test_a_valley_with_the_odd_piece_above(self):
        self.assertEqual(faults(([4, 4], ["valley"]), [0, 1]), [])
        self.assertEqual(faults(([4, 4], ["valley"]), [1, 0]), [("mark", 0)])

    def test_a_hill_with_the_odd_piece_beneath(self):
        self.assertEqual(faults(([4, 4], ["hill"]), [1, 0]), [])
        self.assertEqual(faults(([4, 4], ["hill"]), [0, 1]), [("mark", 0)])

    def test_at_a_crease_behind_an_odd_piece_the_odd_one_is_still_the_one(self):
        strip = ([4, 4, 4], ["valley", "hill"])
        self.assertEqual(faults(strip, [0, 1, 2]), [])
        self.assertEqual(faults(strip, [2, 1, 0]), [("mark", 0), ("mark", 1)])
        self.assertEqual(faults(strip, [0, 2, 1]), [("mark", 1)])
        self.assertEqual(faults(strip, [1, 2, 0]), [("mark", 0)])

    def test_a_roll_lies_whichever_end_is_within(self):
        strip = ([4, 4, 4], ["valley", "valley"])
        self.assertEqual(faults(strip, [0, 2, 1]), [])
        self.assertEqual(faults(strip, [2, 0, 1]), [])


class FaultsOfPiecesThatAreGoneThrough(unittest.TestCase):
    def test_a_piece_past_the_crease_ahead_of_it(self):
        self.assertEqual(faults(([3, 2, 10], ["valley", "valley"]), [0, 2, 1]), [("through", 0, 2)])

    def test_a_piece_past_the_crease_behind_it(self):
        self.assertEqual(faults(([3, 2, 10], ["valley", "valley"]), [2, 0, 1]), [("through", 1, 0)])

    def test_a_piece_above_or_beneath_both_is_none(self):
        self.assertEqual(faults(([3, 2, 10], ["valley", "hill"]), [0, 1, 2]), [])
        self.assertEqual(faults(([3, 2, 10], ["hill", "valley"]), [2, 1, 0]), [])

    def test_a_piece_that_ends_at_the_place_is_none(self):
        self.assertEqual(faults(([3, 2, 2], ["valley", "valley"]), [0, 2, 1]), [])
        self.assertEqual(faults(([2, 2, 3], ["valley", "valley"]), [2, 0, 1]), [])

    def test_a_piece_one_place_past_its_end_is_gone_through(self):
        self.assertEqual(faults(([3, 2, 3], ["valley", "valley"]), [0, 2, 1]), [("through", 0, 2)])
        self.assertEqual(faults(([3, 2, 2], ["valley", "valley"]), [2, 0, 1]), [("through", 1, 0)])

    def test_a_piece_that_lies_away_from_the_place_is_none(self):
        # Piece 3 lies from 0 up to 2, crease 0 in place 5.
        strip = ([5, 4, 1, 2], ["valley", "valley", "valley"])
        self.assertEqual(faults(strip, [0, 3, 2, 1]), [("mark", 2)])

    def test_rising_by_creases_then_by_pieces(self):
        # The pieces 2 and 3 lie past place 2 of crease 0; piece 0 lies past place 1 of crease 1.
        strip = ([2, 1, 9, 9], ["valley", "valley", "hill"])
        self.assertEqual(faults(strip, [0, 3, 2, 1]), [("through", 0, 2), ("through", 0, 3)])
        self.assertEqual(faults(strip, [3, 2, 0, 1]), [("through", 1, 0)])

    def test_a_piece_longer_than_a_strip_begins_with(self):
        self.assertEqual(faults(([1500, 1200, 2500], ["valley", "valley"]), [0, 2, 1]), [("through", 0, 2)])
        self.assertEqual(faults(([2500, 1200, 1200], ["valley", "valley"]), [0, 2, 1]), [])


class FaultsOfCreasesThatAreCrossed(unittest.TestCase):
    def test_two_even_creases_in_one_place(self):
        strip = ([4, 4, 4, 4], ["valley"] * 3)
        self.assertEqual(faults(strip, [0, 2, 1, 3]), [("crossed", 0, 2)])

    def test_two_odd_creases_in_one_place(self):
        strip = ([4] * 5, ["hill", "hill", "valley", "hill"])
        self.assertEqual(faults(strip, [1, 0, 2, 3, 4]), [])
        self.assertEqual(faults(strip, [1, 3, 2, 4, 0]), [("mark", 2), ("crossed", 1, 3)])

    def test_the_upper_or_the_lower_of_the_other_pieces_between(self):
        strip = ([4, 4, 4, 4], ["valley", "valley", "valley"])
        self.assertEqual(faults(strip, [0, 2, 1, 3]), [("crossed", 0, 2)])
        self.assertEqual(faults(strip, [2, 0, 3, 1]), [("crossed", 0, 2)])
        strip = ([4, 4, 4, 4], ["valley", "valley", "hill"])
        self.assertEqual(faults(strip, [0, 3, 1, 2]), [("mark", 1), ("crossed", 0, 2)])

    def test_both_or_none_between_is_no_fault(self):
        strip = ([4, 4, 4, 4], ["valley"] * 3)
        self.assertEqual(faults(strip, [0, 2, 3, 1]), [])
        self.assertEqual(faults(strip, [2, 0, 1, 3]), [])
        self.assertEqual(faults(([4, 4, 4, 4], ["valley", "hill", "valley"]), [0, 1, 2, 3]), [])

    def test_creases_in_unlike_places_do_not_cross(self):
        # The creases 0 and 2 lie in the places 4 and 3, then 9 and 8.
        self.assertEqual(faults(([4, 4, 3, 3], ["valley"] * 3), [2, 0, 3, 1]), [("through", 2, 0)])
        self.assertEqual(faults(([9, 2, 1, 1], ["valley"] * 3), [0, 2, 1, 3]), [("through", 2, 1)])

    def test_an_even_and_an_odd_crease_in_one_place_do_not_cross(self):
        # The creases 0 and 3 both lie in place 2, the pieces of one below it, those of the other beyond.
        strip = ([2, 1, 2, 1, 9], ["valley", "hill", "hill", "valley"])
        self.assertEqual(faults(strip, [0, 4, 1, 3, 2]), [])

    def test_rising(self):
        strip = ([4] * 6, ["valley"] * 5)
        self.assertEqual(faults(strip, [0, 2, 4, 1, 3, 5]),
                         [("crossed", 0, 2), ("crossed", 0, 4), ("crossed", 1, 3), ("crossed", 2, 4)])


class FaultsOfSeveralKinds(unittest.TestCase):
    TOLD = [("mark", 0), ("mark", 2), ("through", 0, 4), ("through", 2, 4), ("crossed", 0, 2), ("crossed", 1, 3)]

    def test_marks_then_through_then_crossed(self):
        self.assertEqual(faults(TANGLE, TANGLED), self.TOLD)
        self.assertIs(lies(TANGLE, TANGLED), False)

    def test_faults_are_tuples_in_a_list(self):
        told = faults(TANGLE, TANGLED)
        self.assertIs(type(told), list)
        self.assertEqual([type(fault) for fault in told], [tuple] * 6)


class Lies(unittest.TestCase):
    def test_one_piece(self):
        self.assertEqual(faults(([5], []), [0]), [])
        self.assertIs(lies(([5], []), [0]), True)

    def test_a_fault_of_any_kind_is_enough(self):
        self.assertIs(lies(([4, 4], ["valley"]), [1, 0]), False)
        self.assertIs(lies(([3, 2, 10], ["valley", "valley"]), [0, 2, 1]), False)
        self.assertIs(lies(([4, 4, 4, 4], ["valley"] * 3), [0, 2, 1, 3]), False)

    def test_true_just_where_there_are_no_faults(self):
        for lengths in ([3, 2, 10], [4, 4, 4, 4], [2, 1, 3, 1], [2, 2, 1, 2]):
            for marks in all_marks(len(lengths) - 1):
                for order in all_orders(len(lengths)):
                    self.assertIs(lies((lengths, marks), order), faults((lengths, marks), order) == [])

    def test_as_many_orders_lie_as_rows_of_stamps_can_be_folded(self):
        # Each order that lies of equal pieces is a folding of a row of stamps, which are counted elsewhere.
        for pieces, many in ((1, 1), (2, 2), (3, 6), (4, 16), (5, 50), (6, 144)):
            counted = 0
            for marks in all_marks(pieces - 1):
                counted += sum(lies(([7] * pieces, marks), order) for order in all_orders(pieces))
            self.assertEqual(counted, many)

    def test_the_other_way_about_turned_over_has_the_same_faults(self):
        for lengths in ([3, 2, 10], [4, 4, 4, 4], [2, 1, 3, 1]):
            for marks in all_marks(len(lengths) - 1):
                strip = (lengths, marks)
                for order in all_orders(len(lengths)):
                    self.assertEqual(faults(over(strip), order[::-1]), faults(strip, order))


class OverPlace(unittest.TestCase):
    STRIP = ([3, 2, 10], ["valley", "hill"])

    def test_from_the_lowest_one_up(self):
        self.assertEqual(over_place(self.STRIP, [0, 1, 2], 1), [0, 1, 2])
        self.assertEqual(over_place(self.STRIP, [2, 0, 1], 1), [2, 0, 1])
        self.assertEqual(over_place(self.STRIP, [1, 0, 2], 0), [0])

    def test_ahead_of_all(self):
        self.assertEqual(over_place(self.STRIP, [0, 1, 2], -1), [])

    def test_at_either_end_of_a_span(self):
        told = [over_place(self.STRIP, [0, 1, 2], place) for place in (0, 1, 2, 3, 10, 11)]
        self.assertEqual(told, [[0], [0, 1, 2], [0, 1, 2], [2], [2], []])

    def test_behind_all(self):
        self.assertEqual(over_place(self.STRIP, [0, 1, 2], 12), [])

    def test_very_large_places(self):
        for place in (10 ** 40, -10 ** 40, 2 ** 64, -2 ** 64, 10 ** 5000):
            self.assertEqual(over_place(self.STRIP, [0, 1, 2], place), [])

    def test_places_beneath_zero(self):
        strip = ([1, 3], ["valley"])
        told = [over_place(strip, [0, 1], place) for place in (-3, -2, -1, 0, 1)]
        self.assertEqual(told, [[], [1], [1], [0, 1], []])

    def test_a_piece_longer_than_a_strip_begins_with(self):
        told = [over_place(([2500], []), [0], place) for place in (-1, 0, 1000, 2499, 2500)]
        self.assertEqual(told, [[], [0], [0], [0], []])


class NothingIsKept(unittest.TestCase):
    """[1]: what is handed in stays, and what is told is the asker's own."""

    ASKED = (need_order, faults, lies, lambda strip, order: over_place(strip, order, 0))

    def setUp(self):
        self.strip = copy.deepcopy(TANGLE)
        self.order = list(TANGLED)

    def test_what_is_handed_in_stays(self):
        for ask in self.ASKED:
            ask(self.strip, self.order)
            self.assertEqual((self.strip, self.order), (TANGLE, TANGLED))

    def test_what_is_told_may_be_changed(self):
        for ask in (faults, lambda strip, order: over_place(strip, order, 0)):
            told = ask(self.strip, self.order)
            before = list(told)
            told.clear()
            self.assertEqual((self.strip, self.order), (TANGLE, TANGLED))
            self.assertEqual(ask(self.strip, self.order), before)

    def test_what_was_told_stays_when_what_was_handed_in_changes(self):
        for ask in (faults, lambda strip, order: over_place(strip, order, 0)):
            strip, order = copy.deepcopy(TANGLE), list(TANGLED)
            told = ask(strip, order)
            before = list(told)
            strip[0][0] = 9
            strip[1].reverse()
            order.reverse()
            self.assertEqual(told, before)

    def test_what_is_told_over_all_pieces_is_not_the_order_itself(self):
        order = [0, 1]
        told = over_place(([3, 3], ["valley"]), order, 1)
        told.append(2)
        self.assertEqual(order, [0, 1])

    def test_an_order_that_is_changed_is_looked_at_anew(self):
        order = [0, 1]
        self.assertIs(lies(([4, 4], ["valley"]), order), True)
        order.reverse()
        self.assertIs(lies(([4, 4], ["valley"]), order), False)
        order.append(0)
        with self.assertRaises(errors.BadOrder):
            lies(([4, 4], ["valley"]), order)


if __name__ == "__main__":
    unittest.main()
