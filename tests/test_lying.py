"""flatstrip/lying.py: [4], and [1] for it."""

import unittest

from flatstrip import lying
from flatstrip.lying import place_of, spans


class TheInterface(unittest.TestCase):
    def test_the_functions_are_defined_here(self):
        for name in ("spans", "place_of"):
            with self.subTest(name=name):
                self.assertEqual(getattr(lying, name).__module__, "flatstrip.lying")


class Spans(unittest.TestCase):
    def test_one_piece(self):
        self.assertEqual(spans(([5], [])), [(0, 5)])

    def test_two_pieces(self):
        self.assertEqual(spans(([4, 4], ["hill"])), [(0, 4), (0, 4)])
        self.assertEqual(spans(([4, 1], ["hill"])), [(0, 4), (3, 4)])

    def test_pieces_up_and_down(self):
        self.assertEqual(spans(([3, 2, 10], ["valley", "hill"])), [(0, 3), (1, 3), (1, 11)])
        self.assertEqual(spans(([5, 2, 4, 6, 1], ["hill", "hill", "valley", "hill"])),
                         [(0, 5), (3, 5), (3, 7), (1, 7), (1, 2)])

    def test_places_beneath_zero(self):
        self.assertEqual(spans(([1, 3, 1, 3], ["hill"] * 3)), [(0, 1), (-2, 1), (-2, -1), (-4, -1)])

    def test_a_piece_longer_than_a_strip_begins_with(self):
        self.assertEqual(spans(([2500, 4000, 1], ["hill", "valley"])), [(0, 2500), (-1500, 2500), (-1500, -1499)])

    def test_marks_do_not_matter(self):
        self.assertEqual(spans(([3, 2, 10], ["hill", "hill"])), spans(([3, 2, 10], ["valley", "valley"])))

    def test_spans_are_tuples_in_a_list(self):
        told = spans(([3, 2], ["hill"]))
        self.assertEqual([type(told)] + [type(span) for span in told], [list, tuple, tuple])

    def test_thirty_pieces(self):
        self.assertEqual(spans(([7] * 30, ["hill"] * 29)), [(0, 7)] * 30)


class Places(unittest.TestCase):
    def test_two_pieces(self):
        self.assertEqual(place_of(([4, 1], ["hill"]), 0), 4)

    def test_each_crease_lies_where_the_piece_ahead_ends(self):
        strip = ([5, 2, 4, 6, 1], ["hill", "hill", "valley", "hill"])
        self.assertEqual([place_of(strip, crease) for crease in range(4)], [5, 3, 7, 1])

    def test_places_beneath_zero(self):
        strip = ([1, 3, 1, 3], ["hill"] * 3)
        self.assertEqual([place_of(strip, crease) for crease in range(3)], [1, -2, -1])

    def test_a_piece_longer_than_a_strip_begins_with(self):
        strip = ([2500, 4000, 1], ["hill", "valley"])
        self.assertEqual([place_of(strip, crease) for crease in range(2)], [2500, -1500])


class NothingIsKept(unittest.TestCase):
    """[1]: what is handed in stays, and what is told is the asker's own."""

    def setUp(self):
        self.strip = ([3, 2, 10], ["valley", "hill"])

    def test_what_is_handed_in_stays(self):
        spans(self.strip)
        place_of(self.strip, 1)
        self.assertEqual(self.strip, ([3, 2, 10], ["valley", "hill"]))

    def test_what_is_told_may_be_changed(self):
        told = spans(self.strip)
        told.append((0, 0))
        told[0] = (8, 9)
        self.assertEqual(spans(self.strip), [(0, 3), (1, 3), (1, 11)])
        self.assertEqual(place_of(self.strip, 0), 3)

    def test_what_was_told_stays_when_what_was_handed_in_changes(self):
        told = spans(self.strip)
        self.strip[0][0] = 100
        self.assertEqual(told, [(0, 3), (1, 3), (1, 11)])
        self.assertEqual(spans(self.strip), [(0, 100), (98, 100), (98, 108)])
        self.assertEqual(place_of(self.strip, 1), 98)


if __name__ == "__main__":
    unittest.main()
