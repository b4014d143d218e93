"""Points 81 and 82: the example of the document, and its calls with their results."""

import unittest

import plain
from climbrow.cards import deck, next_up
from climbrow.errors import BadText, BadWord, Contradiction, Unreachable
from climbrow.kinds import count_orders, order_of
from climbrow.levels import row_after, row_of, side_levels
from climbrow.pairings import marks, result, rotation
from climbrow.papers import span_paper
from climbrow.picks import best_picks, picked_value
from climbrow.reserves import reserve
from climbrow.rings import arc, taken_out
from climbrow.rows import all_values, blocks, struck, value
from climbrow.seasons import season_run
from climbrow.spans import Span, least, most, pairing_with
from climbrow.texts import parse_deed
from climbrow.told import results_told
from climbrow.turns import can_force, exact_range
from climbrow.walks import crossing, heights, peak, peak_places, valley

MINE, THEIRS = [1, 1, 2], [1, 1, 2]


class ExampleTest(plain.Case, unittest.TestCase):

    def test_deck(self):
        self.assertEqual(deck(MINE, THEIRS), [("theirs", 0), ("theirs", 1), ("mine", 0), ("mine", 1),
                                              ("theirs", 2), ("mine", 2)])

    def test_ring(self):
        self.assertEqual([next_up(MINE, THEIRS, "mine", 1), next_up(MINE, THEIRS, "mine", 2)], [2, 0])

    def test_heights(self):
        self.assertEqual(heights(MINE, THEIRS), [0, 1, 2, 1, 0, 1, 0])
        self.assertEqual((peak(MINE, THEIRS), valley(MINE, THEIRS)), (2, 0))

    def test_rotation_by_2(self):
        self.assertEqual(rotation(MINE, THEIRS, 2), [2, 0, 1])
        self.assertEqual(result(MINE, THEIRS, [2, 0, 1]), 2)

    def test_rotation_by_3(self):
        self.assertEqual(rotation(MINE, THEIRS, 3), [0, 1, 2])
        self.assertEqual(marks(MINE, THEIRS, [0, 1, 2]), [True, True, True])
        self.assertEqual(peak_places(MINE, THEIRS), [2])
        self.assertEqual(crossing(MINE, THEIRS, [0, 1, 2], 2), (2, 0))

    def test_arc(self):
        self.assertEqual(arc(MINE, THEIRS, 1, 0), [("theirs", 2), ("mine", 2)])

    def test_the_pair_of_the_arc_taken_out(self):
        self.assertEqual(taken_out(MINE, THEIRS, 1, 0), ([1, 2], [1, 2]))

    def test_least_and_most(self):
        self.assertEqual((least(MINE, THEIRS), most(MINE, THEIRS)), (2, 3))

    def test_pairing_with(self):
        self.assertEqual(pairing_with(MINE, THEIRS, 2), [2, 0, 1])
        self.raises(Unreachable, {"wanted": 1, "lowest": 2, "highest": 3}, pairing_with, MINE, THEIRS, 1)

    def test_reserve(self):
        self.assertEqual(reserve(MINE, THEIRS), [(2, 2)])

    def test_levels_and_rows(self):
        self.assertEqual(side_levels(MINE, THEIRS, "mine"), [1, 0, 0])
        self.assertEqual(side_levels(MINE, THEIRS, "theirs"), [0, 1, 0])
        self.assertEqual([row_of(MINE, THEIRS), row_after(MINE, THEIRS, 1, 0)], [[0, 0, 1], [1, 1]])
        self.assertEqual(blocks([0, 0, 1]), [2, 1])

    def test_values(self):
        self.assertEqual([all_values([0, 0, 1]), value([0, 0, 1], "TTM"), value([0, 0, 1], "MMT")], [[2, 2, 3], 3, 2])
        self.raises(BadWord, {"position": 2}, value, [0, 0, 1], "MT")

    def test_strikes(self):
        self.assertEqual([struck([0, 0, 1], "T"), struck([0, 0, 1], "TT")], [[1, 1], [2]])
        self.assertEqual([struck([0, 0, 1], "M"), struck([0, 0, 1], "MM")], [[0, 1], [1]])

    def test_exact_range(self):
        self.assertEqual([exact_range([0, 0, 1], "TTM"), can_force([0, 0, 1], "TTM", 2)], [(2, 3), True])

    def test_orders(self):
        self.assertEqual(order_of(MINE, THEIRS), "TTMMTM")
        self.assertEqual(count_orders([0, 0, 1]), 2)

    def test_season_run(self):
        self.assertEqual(season_run(Span(1, 4), "T", 1, "M"), ([(1, 4), (1, 3)], [2, 3]))

    def test_picks(self):
        rows = [[0, 0], [0]]
        self.assertEqual([picked_value(rows, "MTM"), best_picks(rows, "MTM")], [3, [1]])

    def test_results_told(self):
        self.assertEqual(results_told(MINE, THEIRS, lost=[0]), (2, 2))
        self.raises(Contradiction, {}, results_told, MINE, THEIRS, lost=[2])

    def test_span_paper(self):
        self.assertEqual(span_paper(MINE, THEIRS), ("span", 2, 2, [2, 0, 1], 3, 0, [0, 1, 2]))

    def test_parse_deed(self):
        self.assertEqual(parse_deed("open a TM 3 1 | 2 2"), ("open", "a", "TM", [3, 1], [2, 2]))
        self.raises(BadText, {"position": 2}, parse_deed, "lay a 07")


if __name__ == "__main__":
    unittest.main()
