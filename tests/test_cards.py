"""climbrow.cards: points 1, 7, 8, 9 and the interface."""

import unittest

import plain
from climbrow.cards import around, deck, next_down, next_up, place_of, rank_of, wins
from climbrow.errors import BadCard, BadHands

HANDS = plain.sample_hands() + plain.uneven_hands(4, 60, 7) + [([], [3]), ([3], []), ([2, 2], []), ([], [1, 1, 0])]


class WinsTest(unittest.TestCase):

    def test_my_number_wins_unless_it_is_smaller(self):
        self.assertIs(wins(3, 2), True)
        self.assertIs(wins(2, 2), True)
        self.assertIs(wins(2, 3), False)

    def test_limits(self):
        self.assertIs(wins(plain.LOW, plain.HIGH), False)
        self.assertIs(wins(plain.HIGH, plain.LOW), True)
        self.assertIs(wins(plain.LOW, plain.LOW), True)
        self.assertIs(wins(plain.HIGH, plain.HIGH), True)
        self.assertIs(wins(plain.HIGH - 1, plain.HIGH), False)


class DeckTest(plain.Case, unittest.TestCase):

    def test_smaller_numbers_stand_first(self):
        self.assertEqual(deck([4, -2], [3, 9]), [("mine", 1), ("theirs", 0), ("mine", 0), ("theirs", 1)])

    def test_equal_numbers_of_both_hands(self):
        self.assertEqual(deck([1, 1], [1, 1]), [("theirs", 0), ("theirs", 1), ("mine", 0), ("mine", 1)])

    def test_empty_hands(self):
        self.assertEqual(deck([], []), [])
        self.assertEqual(deck([2, 1], []), [("mine", 1), ("mine", 0)])
        self.assertEqual(deck([], [2, 1]), [("theirs", 1), ("theirs", 0)])

    def test_deck_is_in_the_order_of_point_7(self):
        for mine, theirs in HANDS:
            self.assertEqual(deck(mine, theirs), plain.plain_deck(mine, theirs))

    def test_a_pair_is_won_exactly_if_their_card_stands_before_mine(self):
        for mine, theirs in HANDS:
            cards = deck(mine, theirs)
            at = {card: place for place, card in enumerate(cards)}
            for m in range(len(mine)):
                for t in range(len(theirs)):
                    self.assertEqual(wins(mine[m], theirs[t]), at["theirs", t] < at["mine", m])

    def test_forty_cards_with_the_limits(self):
        mine, theirs = [plain.HIGH] * 40, [plain.LOW] * 40
        self.assertEqual(deck(mine, theirs), [("theirs", k) for k in range(40)] + [("mine", k) for k in range(40)])


class PlaceAndRankTest(plain.Case, unittest.TestCase):

    def test_place_counts_all_cards_before(self):
        for mine, theirs in HANDS:
            for side, index in plain.cards_of(mine, theirs):
                self.assertEqual(place_of(mine, theirs, side, index), plain.place(mine, theirs, (side, index)))

    def test_rank_counts_the_cards_of_the_own_side_before(self):
        for mine, theirs in HANDS:
            for card in plain.cards_of(mine, theirs):
                before = [other for other in plain.cards_of(mine, theirs)
                          if other[0] == card[0] and plain.stands_before(mine, theirs, other, card)]
                self.assertEqual(rank_of(mine, theirs, *card), len(before))

    def test_known_answers(self):
        self.assertEqual([place_of([5, 1], [1, 5, 9], "mine", k) for k in (0, 1)], [3, 1])
        self.assertEqual([place_of([5, 1], [1, 5, 9], "theirs", k) for k in (0, 1, 2)], [0, 2, 4])
        self.assertEqual([rank_of([5, 1], [1, 5, 9], "mine", k) for k in (0, 1)], [1, 0])
        self.assertEqual([rank_of([5, 1], [9, 5, 1], "theirs", k) for k in (0, 1, 2)], [2, 1, 0])


class AroundTest(plain.Case, unittest.TestCase):

    def test_going_up_meets_the_other_side_in_ring_order(self):
        for mine, theirs in HANDS:
            for card in plain.cards_of(mine, theirs):
                met = [index for side, index in plain.met_going_up(mine, theirs, card) if side != card[0]]
                self.assertEqual(around(mine, theirs, *card), met)
                self.assertEqual(around(mine, theirs, *card, down=False), met)
                self.assertEqual(around(mine, theirs, *card, down=True), list(reversed(met)))

    def test_next_cards_are_the_first_ones_met(self):
        for mine, theirs in HANDS:
            for side, index in plain.cards_of(mine, theirs):
                met = [k for whose, k in plain.met_going_up(mine, theirs, (side, index)) if whose != side]
                if met:
                    self.assertEqual(next_up(mine, theirs, side, index), met[0])
                    self.assertEqual(next_down(mine, theirs, side, index), met[-1])

    def test_known_answers(self):
        mine, theirs = [1, 1, 2], [1, 1, 2]
        self.assertEqual(around(mine, theirs, "mine", 1), [2, 0, 1])
        self.assertEqual(around(mine, theirs, "mine", 1, down=True), [1, 0, 2])
        self.assertEqual(around(mine, theirs, "theirs", 1), [0, 1, 2])
        self.assertEqual(around(mine, theirs, "theirs", 1, down=True), [2, 1, 0])
        self.assertEqual([next_down(mine, theirs, "mine", k) for k in range(3)], [1, 1, 2])
        self.assertEqual([next_up(mine, theirs, "theirs", k) for k in range(3)], [0, 0, 2])

    def test_no_card_on_the_other_side(self):
        self.assertEqual(around([4, 4], [], "mine", 1), [])
        self.assertEqual(around([4, 4], [], "mine", 1, down=True), [])
        self.assertEqual(around([], [4], "theirs", 0), [])
        for call in (next_up, next_down):
            self.raises(BadHands, {"mine_count": 2, "theirs_count": 0}, call, [4, 4], [], "mine", 1)
            self.raises(BadHands, {"mine_count": 0, "theirs_count": 3}, call, [], [4, 4, 4], "theirs", 0)


class CardErrorsTest(plain.Case, unittest.TestCase):

    def test_no_such_card(self):
        for call in (place_of, rank_of, around, next_up, next_down):
            for index in (-1, 2, 40, -40):
                self.raises(BadCard, {"side": "mine", "index": index}, call, [3, 1], [2, 2, 2], "mine", index)
            for index in (-1, 3):
                self.raises(BadCard, {"side": "theirs", "index": index}, call, [3, 1], [2, 2, 2], "theirs", index)
            self.raises(BadCard, {"side": "mine", "index": 0}, call, [], [], "mine", 0)
            self.raises(BadCard, {"side": "theirs", "index": 0}, call, [], [], "theirs", 0)

    def test_a_missing_card_goes_before_an_empty_other_side(self):
        for call in (around, next_up, next_down):
            self.raises(BadCard, {"side": "mine", "index": 1}, call, [3], [], "mine", 1)
            self.raises(BadCard, {"side": "mine", "index": -1}, call, [3], [], "mine", -1)
            self.raises(BadCard, {"side": "theirs", "index": 1}, call, [], [3], "theirs", 1)
            self.raises(BadCard, {"side": "mine", "index": 0}, call, [], [3], "mine", 0)

    def test_different_lengths_are_no_error(self):
        self.assertEqual(place_of([1], [2, 3], "theirs", 1), 2)
        self.assertEqual(rank_of([1], [2, 3], "theirs", 1), 1)
        self.assertEqual(around([1], [2, 3], "mine", 0), [0, 1])
        self.assertEqual([next_up([1], [2, 3], "mine", 0), next_down([1], [2, 3], "mine", 0)], [0, 1])


if __name__ == "__main__":
    unittest.main()
