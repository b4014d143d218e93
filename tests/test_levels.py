"""climbrow.levels: points 22, 23 and the interface."""

import unittest

import plain
from climbrow.errors import BadCard, BadHands
from climbrow.levels import level, mates, row_after, row_of, side_levels

HANDS = plain.sample_hands()


class LevelTest(plain.Case, unittest.TestCase):

    def test_levels_are_heights_beside_the_cards(self):
        for mine, theirs in HANDS:
            for side in ("mine", "theirs"):
                expected = plain.plain_levels(mine, theirs, side)
                self.assertEqual(side_levels(mine, theirs, side), expected)
                self.assertEqual([level(mine, theirs, side, k) for k in range(len(mine))], expected)

    def test_both_sides_have_the_same_levels(self):
        for mine, theirs in HANDS:
            mine_found = sorted(side_levels(mine, theirs, "mine"))
            self.assertEqual(mine_found, sorted(side_levels(mine, theirs, "theirs")))
            self.assertEqual(row_of(mine, theirs), mine_found)

    def test_known_answers(self):
        self.assertEqual((side_levels([], [], "mine"), side_levels([], [], "theirs")), ([], []))
        self.assertEqual((level([5], [5], "mine", 0), level([5], [5], "theirs", 0)), (0, 0))
        self.assertEqual((level([4], [5], "mine", 0), level([4], [5], "theirs", 0)), (-1, -1))
        self.assertEqual(side_levels([4, 1], [2, 3], "mine"), [0, -1])
        self.assertEqual(side_levels([4, 1], [2, 3], "theirs"), [-1, 0])
        self.assertEqual(side_levels([7] * 40, [7] * 40, "mine"), list(range(39, -1, -1)))
        self.assertEqual(side_levels([7] * 40, [7] * 40, "theirs"), list(range(40)))

    def test_errors_in_their_order(self):
        self.raises(BadHands, {"mine_count": 1, "theirs_count": 2}, level, [1], [1, 2], "mine", 5)
        for index in (-1, 2, 40):
            for side in ("mine", "theirs"):
                self.raises(BadCard, {"side": side, "index": index}, level, [1, 2], [1, 2], side, index)
        self.raises(BadCard, {"side": "theirs", "index": 0}, level, [], [], "theirs", 0)
        self.raises(BadHands, {"mine_count": 1, "theirs_count": 2}, side_levels, [1], [1, 2], "mine")
        self.raises(BadHands, {"mine_count": 2, "theirs_count": 1}, side_levels, [1, 3], [1], "theirs")


class RowTest(plain.Case, unittest.TestCase):

    def test_known_rows(self):
        self.assertEqual(row_of([], []), [])
        self.assertEqual((row_of([5], [5]), row_of([4], [5])), ([0], [-1]))
        self.assertEqual(row_of([4, 1], [2, 3]), [-1, 0])
        self.assertEqual(row_of([plain.HIGH, plain.LOW], [plain.LOW, plain.LOW]), [0, 1])
        self.assertEqual(row_of([7] * 40, [7] * 40), list(range(40)))
        self.assertEqual(row_of([6] * 40, [7] * 40), list(range(-40, 0)))

    def test_the_lists_of_point_24_are_the_rows_of_hands(self):
        for n in range(6):
            rows = {tuple(row_of(mine, theirs)) for mine, theirs in plain.all_orders(n)}
            self.assertEqual(sorted(rows), sorted(tuple(row) for row in plain.all_rows(n)))

    def test_hands_of_different_lengths(self):
        self.raises(BadHands, {"mine_count": 1, "theirs_count": 2}, row_of, [1], [1, 2])
        self.raises(BadHands, {"mine_count": 1, "theirs_count": 2}, mates, [1], [1, 2])
        self.raises(BadHands, {"mine_count": 3, "theirs_count": 2}, mates, [1, 1, 1], [1, 2])


class MatesTest(plain.Case, unittest.TestCase):

    def test_mates_of_each_level_in_deck_order(self):
        for mine, theirs in HANDS:
            mine_levels = plain.plain_levels(mine, theirs, "mine")
            theirs_levels = plain.plain_levels(mine, theirs, "theirs")
            cards = plain.plain_deck(mine, theirs)
            expected = [None] * len(mine)
            for told in set(mine_levels):
                my_cards = [k for side, k in cards if side == "mine" and mine_levels[k] == told]
                their_cards = [k for side, k in cards if side == "theirs" and theirs_levels[k] == told]
                self.assertEqual(len(my_cards), len(their_cards))
                for m, t in zip(my_cards, their_cards):
                    expected[m] = t
            self.assertEqual(mates(mine, theirs), expected)

    def test_known_answers(self):
        self.assertEqual(mates([], []), [])
        self.assertEqual(mates([1, 1, 2], [1, 1, 2]), [1, 0, 2])
        self.assertEqual(mates([2, 2, 2], [2, 2, 2]), [2, 1, 0])
        self.assertEqual(mates([4, 2], [3, 1]), [0, 1])
        self.assertEqual(mates([4, 2], [1, 3]), [1, 0])


class RowAfterTest(plain.Case, unittest.TestCase):

    def test_the_row_of_the_hands_that_are_left_counted_in(self):
        for mine, theirs in HANDS:
            for m in range(0, len(mine), 1 if len(mine) < 9 else 13):
                for t in range(0, len(mine), 1 if len(mine) < 9 else 11):
                    left = plain.plain_row(plain.without(mine, m), plain.without(theirs, t))
                    expected = [entry + plain.won(mine, theirs, m, t) for entry in left]
                    self.assertEqual(row_after(mine, theirs, m, t), expected)

    def test_both_readings_by_the_arc(self):
        for mine, theirs in plain.small_hands(2) + plain.all_orders(3) + plain.some_hands(21, 30, 8):
            for m in range(len(mine)):
                for t in range(len(theirs)):
                    met = plain.met_going_up(mine, theirs, ("mine", m))
                    on_arc = met[:met.index(("theirs", t))]
                    for side, taken in (("mine", m), ("theirs", t)):
                        reading = [told + ((side, k) in on_arc)
                                   for k, told in enumerate(plain.plain_levels(mine, theirs, side)) if k != taken]
                        self.assertEqual(row_after(mine, theirs, m, t), sorted(reading))

    def test_known_answers(self):
        self.assertEqual(row_after([5], [5], 0, 0), [])
        self.assertEqual(row_after([4, 1], [2, 3], 0, 0), [0])
        self.assertEqual(row_after([4, 1], [2, 3], 1, 0), [0])
        self.assertEqual(row_after([4, 3], [2, 1], 0, 0), [1])
        self.assertEqual(row_after([1, 1], [2, 2], 0, 0), [-1])

    def test_errors_in_their_order(self):
        self.raises(BadHands, {"mine_count": 1, "theirs_count": 2}, row_after, [1], [1, 2], 5, 5)
        self.raises(BadCard, {"side": "mine", "index": 2}, row_after, [1, 2], [1, 2], 2, 2)
        self.raises(BadCard, {"side": "mine", "index": -1}, row_after, [1, 2], [1, 2], -1, -1)
        self.raises(BadCard, {"side": "theirs", "index": 2}, row_after, [1, 2], [1, 2], 0, 2)
        self.raises(BadCard, {"side": "theirs", "index": -2}, row_after, [1, 2], [1, 2], 0, -2)


if __name__ == "__main__":
    unittest.main()
