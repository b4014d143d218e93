"""Points 81 and 82: the example of the document, and its calls with their results."""

import unittest

import plain
from climbrow.cards import deck, next_up
from climbrow.pairings import marks, result, rotation
from climbrow.rings import arc, taken_out
from climbrow.walks import crossing, heights, peak, peak_places, valley

MINE, THEIRS = [1, 1, 2], [1, 1, 2]


class ExampleTest(plain.Case, unittest.TestCase):

    def test_deck(self):
        self.assertEqual(deck(MINE, THEIRS), [("theirs", 0), ("theirs", 1), ("mine", 0), ("mine", 1),
                                              ("theirs", 2), ("mine", 2)])

    def test_ring(self):
        self.assertEqual([next_up(MINE, THEIRS, "mine", 1), next_up(MINE, THEIRS, "mine", 2)], [2, 0])

    def test_heights(self):
        self.assertEqual(heights(MINE, THEIRS), [0, 1, 2, 1, 0, 1, 0])
        self.assertEqual((peak(MINE, THEIRS), valley(MINE, THEIRS)), (2, 0))

    def test_rotation_by_2(self):
        self.assertEqual(rotation(MINE, THEIRS, 2), [2, 0, 1])
        self.assertEqual(result(MINE, THEIRS, [2, 0, 1]), 2)

    def test_rotation_by_3(self):
        self.assertEqual(rotation(MINE, THEIRS, 3), [0, 1, 2])
        self.assertEqual(marks(MINE, THEIRS, [0, 1, 2]), [True, True, True])
        self.assertEqual(peak_places(MINE, THEIRS), [2])
        self.assertEqual(crossing(MINE, THEIRS, [0, 1, 2], 2), (2, 0))

    def test_arc(self):
        self.assertEqual(arc(MINE, THEIRS, 1, 0), [("theirs", 2), ("mine", 2)])

    def test_the_pair_of_the_arc_taken_out(self):
        self.assertEqual(taken_out(MINE, THEIRS, 1, 0), ([1, 2], [1, 2]))


if __name__ == "__main__":
    unittest.main()
