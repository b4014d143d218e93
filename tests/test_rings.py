"""climbrow.rings: points 12, 13, 17 (taking out a pair) and the interface."""

import unittest

import plain
from climbrow.errors import BadCard, BadHands
from climbrow.rings import arc, taken_out, turn

HANDS = plain.sample_hands()


class TurnTest(plain.Case, unittest.TestCase):

    def one_step(self, mine, theirs):
        """Point 12 for one step of hands that are not empty."""
        new_mine, new_theirs = list(mine), list(theirs)
        side, index = plain.plain_deck(mine, theirs)[-1]
        (new_mine if side == "mine" else new_theirs)[index] = min(mine + theirs) - 1
        return new_mine, new_theirs, -1 if side == "mine" else 1

    def test_one_step(self):
        self.assertEqual(turn([1, 4], [2, 3]), ([1, 0], [2, 3], -1))
        self.assertEqual(turn([1, 3], [2, 4]), ([1, 3], [2, 0], 1))
        self.assertEqual(turn([2, 2], [2, 2]), ([2, 1], [2, 2], -1))
        self.assertEqual(turn([1, 1], [2, 2]), ([1, 1], [2, 0], 1))
        self.assertEqual(turn([plain.LOW], [plain.HIGH]), ([plain.LOW], [plain.LOW - 1], 1))
        for mine, theirs in HANDS:
            if mine:
                self.assertEqual(turn(mine, theirs), self.one_step(mine, theirs))
                self.assertEqual(turn(mine, theirs, steps=1), self.one_step(mine, theirs))

    def test_the_last_card_becomes_the_first_one(self):
        for mine, theirs in HANDS:
            if mine:
                cards = plain.plain_deck(mine, theirs)
                new_mine, new_theirs, _ = turn(mine, theirs)
                self.assertEqual(plain.plain_deck(new_mine, new_theirs), cards[-1:] + cards[:-1])

    def test_several_steps_are_made_one_after_the_other(self):
        for mine, theirs in HANDS:
            if mine:
                expected = (mine, theirs, 0)
                for steps in range(2 * len(mine) + 2):
                    self.assertEqual(turn(mine, theirs, steps=steps), expected)
                    new_mine, new_theirs, change = self.one_step(*expected[:2])
                    expected = (new_mine, new_theirs, expected[2] + change)

    def test_no_step(self):
        self.assertEqual(turn([3, 1], [2, 2], steps=0), ([3, 1], [2, 2], 0))

    def test_two_hundred_steps(self):
        mine, theirs = [3, 1, 2], [2, 2, 5]
        expected = (mine, theirs, 0)
        for _ in range(200):
            new_mine, new_theirs, change = self.one_step(*expected[:2])
            expected = (new_mine, new_theirs, expected[2] + change)
        self.assertEqual(turn(mine, theirs, steps=200), expected)
        self.assertEqual(min(expected[0] + expected[1]), 1 - 200)
        forty = turn([plain.LOW] * 40, [plain.HIGH] * 40, steps=200)
        self.assertEqual((min(forty[0] + forty[1]), forty[2]), (plain.LOW - 200, 40))

    def test_empty_hands(self):
        for steps in (0, 1, 200):
            self.assertEqual(turn([], [], steps=steps), ([], [], 0))

    def test_all_results_change_by_the_same_amount(self):
        for mine, theirs in plain.small_hands(1) + plain.small_hands(2) + plain.all_orders(3):
            before = plain.all_results(mine, theirs)
            for steps in range(8):
                new_mine, new_theirs, change = turn(mine, theirs, steps=steps)
                self.assertEqual(plain.all_results(new_mine, new_theirs), [found + change for found in before])

    def test_hands_of_different_lengths(self):
        self.raises(BadHands, {"mine_count": 1, "theirs_count": 0}, turn, [1], [])
        self.raises(BadHands, {"mine_count": 0, "theirs_count": 2}, turn, [], [1, 2], steps=0)


class ArcTest(plain.Case, unittest.TestCase):

    def test_all_cards_on_the_way_up(self):
        for mine, theirs in HANDS:
            for m in range(len(mine)):
                met = plain.met_going_up(mine, theirs, ("mine", m))
                for t in range(len(theirs)):
                    self.assertEqual(arc(mine, theirs, m, t), met[:met.index(("theirs", t))])

    def test_known_answers(self):
        self.assertEqual(arc([1], [1], 0, 0), [])
        self.assertEqual(arc([1], [2], 0, 0), [])
        self.assertEqual(arc([1, 4], [2, 3], 0, 1), [("theirs", 0)])
        self.assertEqual(arc([1, 4], [2, 3], 1, 0), [("mine", 0)])
        self.assertEqual(arc([1, 4], [2, 3], 1, 1), [("mine", 0), ("theirs", 0)])


class TakenOutTest(plain.Case, unittest.TestCase):

    def test_the_other_cards_keep_their_order(self):
        for mine, theirs in HANDS:
            for m in range(len(mine)):
                for t in range(len(theirs)):
                    expected = (plain.without(mine, m), plain.without(theirs, t))
                    self.assertEqual(taken_out(mine, theirs, m, t), expected)

    def test_known_answers(self):
        self.assertEqual(taken_out([5], [6], 0, 0), ([], []))
        self.assertEqual(taken_out([5, 3, 4], [9, 8, 7], 1, 2), ([5, 4], [9, 8]))


class RingErrorsTest(plain.Case, unittest.TestCase):

    def test_errors_in_their_order(self):
        for call in (arc, taken_out):
            self.raises(BadHands, {"mine_count": 1, "theirs_count": 2}, call, [1], [1, 2], 8, 9)
            self.raises(BadCard, {"side": "mine", "index": 2}, call, [1, 2], [1, 2], 2, 2)
            self.raises(BadCard, {"side": "mine", "index": -1}, call, [1, 2], [1, 2], -1, -1)
            self.raises(BadCard, {"side": "theirs", "index": 2}, call, [1, 2], [1, 2], 1, 2)
            self.raises(BadCard, {"side": "theirs", "index": -1}, call, [1, 2], [1, 2], 0, -1)
            self.raises(BadCard, {"side": "mine", "index": 0}, call, [], [], 0, 0)


if __name__ == "__main__":
    unittest.main()
